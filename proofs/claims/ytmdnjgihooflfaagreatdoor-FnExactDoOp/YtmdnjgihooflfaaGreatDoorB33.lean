/-
  OWN TEXT: DopI, KitRg, SpecOp, SpecBk, SpecOff, SpecDop, SpecRes.
-/
import Derived.Deep.DeepCutAuto
import Derived.Deep.RegionHeld3
import Derived.Great.Walk
import Derived.Deep.LoopGhost
import Derived.Test.YtmdnjgihooflfaaGreatDoorB31
import Derived.Test.YtmdnjgihooflfaaGreatDoorB32
namespace Go.Proofs.YtmdnjgihooflfaaGreatDoor
open Go.RowKit
open Go.Value (int)
open Go.IntKind (i64)
set_option maxHeartbeats 64000000
set_option maxRecDepth 100000
theorem zdC {u:World}{a c:Nat}{r s t n o p q:Value}(h3:u.heap[a]?=some (.cells #[r,s,t] 38 (0,0)))(j:u.heap[c]?=some (.cells #[n,o,p,q] 41 (0,0)))(v1 v2 v3 d f g h:Value) :
  (qt u a v1 v2 v3).heap[c]?=some (.cells #[n,o,p,q] 41 (0,0))/\(ZK (qt u a v1 v2 v3) c d f g h).heap[a]?=some (.cells #[v1,v2,v3] 38 (0,0))/\(ZK (qt u a v1 v2 v3) c d f g h).heap[c]?=some (.cells #[d,f,g,h] 41 (0,0))/\zx u (qt u a v1 v2 v3) (fun b=>b=a)/\zx (qt u a v1 v2 v3) (ZK (qt u a v1 v2 v3) c d f g h) (fun b=>b=c):=by
 have i:c≠a:=fun e=>by
  rw[e,h3] at j;simp at j
 have k:=QG u a v1 v2 v3;have l:=QH (qt u a v1 v2 v3) c d f g h;have m:=k.blk j i;exact⟨m,l.blk (zcq h3 v1 v2 v3) (show ¬ a=c from fun e=>i e.symm),zcJ m d f g h,k,l⟩
theorem zhn {w u f g:World}{a c:Nat}(d:Below w.heap.size w u)(h3:w.heap.size<=a)(h4:w.heap.size<=c)(h:zx u f (fun b=>b=a))(i:zx f g (fun b=>b=c)):Below w.heap.size w g:=by
 have q:=zx.below d d.size h (fun b e=>by have e:b=a:=e;omega)
 exact zx.below q q.size i (fun b e=>by have e:b=c:=e;omega)
theorem zmn (x:Off)(a1 a2 W n:Option Addr)(c1 c2 c3 s m:Nat)(g:Int)(y:OpD)(pe:Nat->Addr)(w:World)(hs:Off.Short x 1048576)(hF:Zm w)(hT:Zq w/\Zu w)(he:qY w pe)(hg:w.cell? ⟨0,0,none⟩=some (.iface 284 (.agg #[.pointer (some ⟨12,92,none⟩)])))
  (d8:Off.Is w [.slice a1 x.san c1,.slice a2 x.ldn c2,.slice W x.bkn c3] x) (d6:zT w n y.lgn y.lg) (e1:qj n y.lgn s) (ho:y.own.size<=1048576) (hl:y.lgn<=1048576) (hm:zac y->In y.kind 4 8->y.name=(m:Int)+1) :
  Calls Tryz.prog 11 #[.agg #[.slice a1 x.san c1,.slice a2 x.ldn c2,.slice W x.bkn c3],int i64 g,.agg #[int i64 y.kind,.string y.own,int i64 y.name,.slice n y.lgn s,int i64 y.pe,int i64 y.len,int i64 y.hei,int i64 y.cl,.bool y.all,int i64 y.be,int i64 y.unt,int i64 y.now]] w fun e w'=>(∃ Z code name price N T ok,Res x g y m Z code name price N T ok/\zmO w.heap.size w.heap.size Z code name price N T ok e w')/\Below w.heap.size w w':=by
 have HS:=hI hs;have HT:Hid (Zm w/\(Zq w/\Zu w)/\qY w pe):=⟨hF,hT,he⟩;have HG:Hid _:=hg;have a8:=hI d8;have c9:Hid (zT w n y.lgn y.lg/\qj n y.lgn s):=⟨d6,e1⟩;have e5:=hI hm;obtain⟨b0,b1,b2,b3,e2⟩:=zcT w (.cells #[.slice a1 x.san c1,.slice a2 x.ldn c2,.slice W x.bkn c3] 38) (.cells #[int i64 g] 3) (.cells #[int i64 y.kind,.string y.own,int i64 y.name,.slice n y.lgn s,int i64 y.pe,int i64 y.len,int i64 y.hei,int i64 y.cl,.bool y.all,int i64 y.be,int i64 y.unt,int i64 y.now] 47) (.cells #[.slice none 0 0,.slice none 0 0,.slice none 0 0] 38);have b4:=heap_alloc_new ((((w.alloc (.cells #[.slice a1 x.san c1,.slice a2 x.ldn c2,.slice W x.bkn c3] 38)).alloc (.cells #[int i64 g] 3)).alloc (.cells #[int i64 y.kind,.string y.own,int i64 y.name,.slice n y.lgn s,int i64 y.pe,int i64 y.len,int i64 y.hei,int i64 y.cl,.bool y.all,int i64 y.be,int i64 y.unt,int i64 y.now] 47)).alloc (.cells #[.slice none 0 0,.slice none 0 0,.slice none 0 0] 38)) (.cells #[int i64 0,int i64 0,int i64 0,.slice none 0 0] 41);rw[e2] at b4;have HD:Hid (DSit (((((w.alloc (.cells #[.slice a1 x.san c1,.slice a2 x.ldn c2,.slice W x.bkn c3] 38)).alloc (.cells #[int i64 g] 3)).alloc (.cells #[int i64 y.kind,.string y.own,int i64 y.name,.slice n y.lgn s,int i64 y.pe,int i64 y.len,int i64 y.hei,int i64 y.cl,.bool y.all,int i64 y.be,int i64 y.unt,int i64 y.now] 47)).alloc (.cells #[.slice none 0 0,.slice none 0 0,.slice none 0 0] 38)).alloc (.cells #[int i64 0,int i64 0,int i64 0,.slice none 0 0] 41)) (w.heap.size) (w.heap.size+1) (w.heap.size+1+1) (.slice a1 x.san c1) (.slice a2 x.ldn c2) (.slice W x.bkn c3) g #[int i64 y.kind,.string y.own,int i64 y.name,.slice n y.lgn s,int i64 y.pe,int i64 y.len,int i64 y.hei,int i64 y.cl,.bool y.all,int i64 y.be,int i64 y.unt,int i64 y.now]):=⟨zd b0 _,zd b1 _,zd b2 _⟩;have H3:Hid ((((((w.alloc (.cells #[.slice a1 x.san c1,.slice a2 x.ldn c2,.slice W x.bkn c3] 38)).alloc (.cells #[int i64 g] 3)).alloc (.cells #[int i64 y.kind,.string y.own,int i64 y.name,.slice n y.lgn s,int i64 y.pe,int i64 y.len,int i64 y.hei,int i64 y.cl,.bool y.all,int i64 y.be,int i64 y.unt,int i64 y.now] 47)).alloc (.cells #[.slice none 0 0,.slice none 0 0,.slice none 0 0] 38)).alloc (.cells #[int i64 0,int i64 0,int i64 0,.slice none 0 0] 41)).heap[w.heap.size+1+1+1]?=some (.cells #[.slice none 0 0,.slice none 0 0,.slice none 0 0] 38 (0,0))):=zd b3 _;have V:=hI b4;have O:Below w.heap.size w (((((w.alloc (.cells #[.slice a1 x.san c1,.slice a2 x.ldn c2,.slice W x.bkn c3] 38)).alloc (.cells #[int i64 g] 3)).alloc (.cells #[int i64 y.kind,.string y.own,int i64 y.name,.slice n y.lgn s,int i64 y.pe,int i64 y.len,int i64 y.hei,int i64 y.cl,.bool y.all,int i64 y.be,int i64 y.unt,int i64 y.now] 47)).alloc (.cells #[.slice none 0 0,.slice none 0 0,.slice none 0 0] 38)).alloc (.cells #[int i64 0,int i64 0,int i64 0,.slice none 0 0] 41)):=zk (zk (zk (zk (zk bZ _) _) _) _) _;clear hs hF hT he hg d8 d6 e1 hm b0 b1 b2 b3 b4 e2;go_enter Tryz.func11,Tryz.ntmps11;obtain⟨f0,f1,f2⟩:=ce3 HD.out.bo;go_wp2_with fail;generalize (((((w.alloc (.cells #[.slice a1 x.san c1,.slice a2 x.ldn c2,.slice W x.bkn c3] 38)).alloc (.cells #[int i64 g] 3)).alloc (.cells #[int i64 y.kind,.string y.own,int i64 y.name,.slice n y.lgn s,int i64 y.pe,int i64 y.len,int i64 y.hei,int i64 y.cl,.bool y.all,int i64 y.be,int i64 y.unt,int i64 y.now] 47)).alloc (.cells #[.slice none 0 0,.slice none 0 0,.slice none 0 0] 38)).alloc (.cells #[int i64 0,int i64 0,int i64 0,.slice none 0 0] 41))=U at HD H3 V O f0 f1 f2 ⊢;obtain⟨_,_,_,_,_,_,e0,h1,s1,h2,s2,h3,s3⟩:=(a8.out.below O)
 cases e0
 refine(zmm x a1 a2 W c1 c2 c3 U HS.out h1 h2 h3 s3.1).mono ?_;rintro e U1 ⟨⟨tb,rfl,a7⟩,hb⟩;clear h1 s1 h2 s2 h3 s3 f0 f1 f2;replace HD:Hid _:=HD.out.below hb;replace H3:Hid _:=zb H3.out hb;replace V:Hid _:=zb V.out hb;replace O:=ze O hb;clear hb;have Q:=hI a7;clear a7
 cases tb with
 | false =>
  have HN:Hid (¬ (Zk x/\zbn x.bkn x.bk g)):=fun h=>by have:=Q.out.2 h.1;cases this
  have f:Hid _:=zdC H3.out V.out (.slice none 0 0) (.slice none 0 0) (.slice none 0 0) (int i64 0) (int i64 0) (int i64 0) (.slice none 0 0);have q:Hid _:=zhn O (by omega) (by omega) f.out.2.2.2.1 f.out.2.2.2.2
  obtain⟨p0,p1,p2⟩:=ce3 H3.out;obtain⟨g0,X,g2⟩:=fe3 H3.out;obtain⟨q0,q1,q2,Y⟩:=ce4 V.out;obtain⟨k0,k1,k2,k3⟩:=fe4 V.out;unfold ZK qt at f q;obtain⟨f4,f5,f6,f7⟩:=ce4 f.out.1;obtain⟨e7,e8,e9,f3⟩:=fe4 f.out.1;go_wp2;have Z3:=f.out.2.1;have Z4:=f.out.2.2.1;obtain⟨z0,z1,z2⟩:=ce3 Z3;obtain⟨t0,t1,t2,t3⟩:=ce4 Z4;refine bodyPost_ret (v:=.tuple #[.agg #[.slice none 0 0,.slice none 0 0,.slice none 0 0],.agg #[int i64 0,int i64 0,int i64 0,.slice none 0 0],.bool false]) (by simp[results,Tryz.results11,go_sem,z0,z1,z2,t0,t1,t2,t3]) rfl ?_
  exact⟨⟨znZ x,0,0,0,0,zeM [],false,.inr ⟨HN.out,rfl,rfl,rfl,rfl,rfl,rfl⟩,zmO.no x _ _ _ _⟩,q.out⟩
 | true =>
 have a5:Hid (Zk x):=Q.out.1 rfl;clear Q;have f2:=za HD.out.bo 2 _ rfl;have g0:=za HD.out.bb 0 _ rfl;go_wp2_with fail;obtain⟨_,_,_,_,_,_,e0,h1,s1,h2,s2,h3,s3⟩:=(a8.out.below O)
 cases e0
 refine(zcZ W x.bkn c3 x.bk g U1 (by have:=a5.out.2.2.1;omega) h3).mono ?_
 rintro e d ⟨⟨tb,rfl,a7⟩,hb⟩;clear h1 s1 h2 s2 h3 s3 f2 g0;replace HD:Hid _:=HD.out.below hb;replace H3:Hid _:=zb H3.out hb;replace V:Hid _:=zb V.out hb;replace O:=ze O hb;clear hb;have Q:Hid (tb=true↔zbn x.bkn x.bk g):=a7.trans ⟨fun h=>⟨h.1,fun i hi e=>h.2 ⟨i,hi,e⟩⟩,fun h=>⟨h.1,fun ⟨i,hi,e⟩=>h.2 i hi e⟩⟩
 clear a7
 cases tb with
 | false =>
  have HN:Hid (¬ (Zk x/\zbn x.bkn x.bk g)):=fun h=>by have:=Q.out.2 h.2;cases this
  have f:Hid _:=zdC H3.out V.out (.slice none 0 0) (.slice none 0 0) (.slice none 0 0) (int i64 0) (int i64 0) (int i64 0) (.slice none 0 0);have q:Hid _:=zhn O (by omega) (by omega) f.out.2.2.2.1 f.out.2.2.2.2
  obtain⟨p0,p1,p2⟩:=ce3 H3.out;obtain⟨g0,X,g2⟩:=fe3 H3.out;obtain⟨q0,q1,q2,Y⟩:=ce4 V.out;obtain⟨k0,k1,k2,k3⟩:=fe4 V.out;unfold ZK qt at f q;obtain⟨f4,f5,f6,f7⟩:=ce4 f.out.1;obtain⟨e7,e8,e9,f3⟩:=fe4 f.out.1;go_wp2;have Z3:=f.out.2.1;have Z4:=f.out.2.2.1;obtain⟨z0,z1,z2⟩:=ce3 Z3;obtain⟨t0,t1,t2,t3⟩:=ce4 Z4;refine bodyPost_ret (v:=.tuple #[.agg #[.slice none 0 0,.slice none 0 0,.slice none 0 0],.agg #[int i64 0,int i64 0,int i64 0,.slice none 0 0],.bool false]) (by simp[results,Tryz.results11,go_sem,z0,z1,z2,t0,t1,t2,t3]) rfl ?_
  exact⟨⟨znZ x,0,0,0,0,zeM [],false,.inr ⟨HN.out,rfl,rfl,rfl,rfl,rfl,rfl⟩,zmO.no x _ _ _ _⟩,q.out⟩
 | true =>
 have b5:Hid (zbn x.bkn x.bk g):=Q.out.1 rfl;clear Q;have e6:∀ (fn:Fn) (first d4:Array Value) (w:World),(Instr.makeFunc fn first d4).run Tryz.prog w=.ok (.func fn first d4) w:=fun _ _ _ _=>rfl
 have X3:((d.alloc (.cells #[.slice none 0 0,.slice none 0 0,.slice none 0 0] 38)).alloc (.cells #[int i64 0,int i64 0,int i64 0,.slice none 0 0] 41)).heap[d.heap.size]?=some (.cells #[.slice none 0 0,.slice none 0 0,.slice none 0 0] 38 (0,0)):=zd (heap_alloc_new d _) _;have X4:((d.alloc (.cells #[.slice none 0 0,.slice none 0 0,.slice none 0 0] 38)).alloc (.cells #[int i64 0,int i64 0,int i64 0,.slice none 0 0] 41)).heap[d.heap.size+1]?=some (.cells #[int i64 0,int i64 0,int i64 0,.slice none 0 0] 41 (0,0)):=by simpa using heap_alloc_new (d.alloc (.cells #[.slice none 0 0,.slice none 0 0,.slice none 0 0] 38)) (.cells #[int i64 0,int i64 0,int i64 0,.slice none 0 0] 41)
 have a4:Below d.heap.size d ((d.alloc (.cells #[.slice none 0 0,.slice none 0 0,.slice none 0 0] 38)).alloc (.cells #[int i64 0,int i64 0,int i64 0,.slice none 0 0] 41)):=zk (zk bZ _) _;go_wp2_with fail;generalize (d.alloc (.cells #[.slice none 0 0,.slice none 0 0,.slice none 0 0] 38)).alloc (.cells #[int i64 0,int i64 0,int i64 0,.slice none 0 0] 41)=l at X3 X4 a4 ⊢;have HX:Hid (l.heap[d.heap.size]?=some (.cells #[.slice none 0 0,.slice none 0 0,.slice none 0 0] 38 (0,0))/\l.heap[d.heap.size+1]?=some (.cells #[int i64 0,int i64 0,int i64 0,.slice none 0 0] 41 (0,0))):=⟨X3,X4⟩;have f9:d.heap.size+1<l.heap.size:=zM X4;have f8:w.heap.size+1+1+1+1<d.heap.size:=zM V.out;have P:Below w.heap.size w (l.alloc (.cells #[.nilIface] 92)):=zk (ze O a4) _;have a0:Below l.heap.size l (l.alloc (.cells #[.nilIface] 92)):=zk bZ _;have d5:=(HD.out.below a4).below a0;refine(zmk 52 #[.pointer (some ⟨w.heap.size,0,none⟩),.pointer (some ⟨w.heap.size+1,0,none⟩),.pointer (some ⟨w.heap.size+1+1,0,none⟩),.pointer (some ⟨d.heap.size,0,none⟩),.pointer (some ⟨d.heap.size+1,0,none⟩)] l
  (fun M=>M.heap[l.heap.size]?=some (.cells #[.nilIface] 92 (0,0))/\Dop1W x g y m (l.heap.size+1) (d.heap.size) (d.heap.size+1) M/\Below d.heap.size d M)
  (fun u M=>M.heap[l.heap.size]?=some (.cells #[.nilIface] 92 (0,0))/\(∃ c:Nat,1<=c/\c<=8/\u=.agg #[.iface 391 (.pointer (some (pe c)))]/\zhG x g y m x (c:Int) 0 0)/\Below d.heap.size d M) (fun _ _=>by kernel_rfl) ?_).mono ?_
 ·refine(dop1_any x a1 a2 W n c1 c2 c3 s m (w.heap.size) (w.heap.size+1) (w.heap.size+1+1) d.heap.size (d.heap.size+1) g y pe _ a5.out HS.out b5.out (HT.out.1.below P) ⟨HT.out.2.1.1.below P,HT.out.2.1.2.below P⟩ (HT.out.2.2.below P) (a8.out.below P) (c9.out.1.below P) c9.out.2 ho hl e5.out d5 (zb X3 a0) (zb X4 a0) (by omega)).mono ?_
  rintro e M ⟨hA,hk⟩;have hn:=hk.blk (heap_alloc_new l _) (show ¬ (l.heap.size=d.heap.size∨l.heap.size=d.heap.size+1) by omega)
  have J:Below d.heap.size d M:=zx.below (ze a4 a0) (ze a4 a0).size hk (fun b e=>by have e:b=d.heap.size∨b=d.heap.size+1:=e;omega)
  refine⟨hn,?_⟩
  rcases hA with⟨rfl,hW⟩|⟨c,X,g8,rfl,S⟩
  ·exact .inl ⟨rfl,hn,by simpa using hW,J⟩
  ·exact .inr ⟨_,rfl,hn,⟨c,X,g8,rfl,S⟩,J⟩
 clear X3 X4 d5 a0 P e6;have n0:=fun w=>zgW Tryz.underlying92 w
 have n1:=fun w v=>Z9 96 v Tryz.underlying92 w
 rintro e w4 (⟨rfl,M,⟨hn,hW,J⟩,rfl⟩|⟨u,rfl,M,⟨hn,⟨c,X,g8,rfl,S⟩,J⟩,rfl⟩)
 ·obtain⟨Z,b1,d1,b2,d2,b3,d3,name,price,ra,N,rc,T,L,C,A,B,D,E,e3,e4,d7,S,d9,b8⟩:=hW
  have kk:zx M (M.setCell ⟨l.heap.size,0,none⟩ .nilIface) (fun b=>b=l.heap.size):=(zx.refl M (fun b=>b=l.heap.size)).set (a:=⟨l.heap.size,0,none⟩) rfl .nilIface
  have Y3:Hid _:=kk.blk e3 (show ¬ d.heap.size=l.heap.size by omega)
  have Y4:Hid _:=kk.blk e4 (show ¬ d.heap.size+1=l.heap.size by omega)
  have H:Hid _:=d7.box kk hn (by decide)
  have F:Hid _:=kk.own b8 (fun b e=>zQ b8 hn (by decide) b e)
  have G:Below d.heap.size d (M.setCell ⟨l.heap.size,0,none⟩ .nilIface):=J.setCell (p:=⟨l.heap.size,0,none⟩) (by show d.heap.size<=l.heap.size;omega) _
  have R:Hid (zhG x g y m Z 0 name price/\RowsN x y m 0 N T):=⟨S,d9⟩;clear e3 e4 d7 S d9 b8 J hn kk;generalize M.setCell ⟨l.heap.size,0,none⟩ .nilIface=u4 at Y3 Y4 H F G ⊢;have o:Below d.heap.size d (u4.alloc (.cells #[.nilIface] 96)):=zk G _;have hp:Below u4.heap.size u4 (u4.alloc (.cells #[.nilIface] 96)):=zk bZ _;replace Y3:Hid _:=zb Y3.out hp;replace Y4:Hid _:=zb Y4.out hp;replace H:Hid _:=H.out.below hp;replace F:Hid _:=zo hp F.out;clear G hp;go_upto_region 8 with fail;generalize u4.alloc (.cells #[.nilIface] 96)=u5 at Y3 Y4 H F o ⊢;have z:Below u5.heap.size u5 u5.drew:=bZ.drew;replace Y3:Hid _:=zb Y3.out z;replace Y4:Hid _:=zb Y4.out z;replace H:Hid _:=H.out.below z;replace F:Hid _:=zo z F.out;replace o:=ze o z;refine qg 5 5 (fun u=>u.cell? ⟨d.heap.size,0,none⟩=some (.slice b1 Z.san d1)/\u.cell? ⟨d.heap.size,1,none⟩=some (.slice b2 Z.ldn d2)/\u.cell? ⟨d.heap.size,2,none⟩=some (.slice b3 Z.bkn d3)/\u.cell? ⟨d.heap.size+1,0,none⟩=some (int i64 0)/\u.cell? ⟨d.heap.size+1,1,none⟩=some (int i64 name)/\u.cell? ⟨d.heap.size+1,2,none⟩=some (int i64 price)/\u.cell? ⟨d.heap.size+1,3,none⟩=some (.slice ra N rc)) rfl (by kernel_rfl) (⟨za Y3.out 0 _ rfl,za Y3.out 1 _ rfl,za Y3.out 2 _ rfl,za Y4.out 0 _ rfl,za Y4.out 1 _ rfl,za Y4.out 2 _ rfl,za Y4.out 3 _ rfl⟩) (fun hS=>?_)
  simp only[List.replicate_succ,List.replicate_zero];clear z;generalize u5.drew=u6 at Y3 Y4 H F o hS ⊢;have Y:=zb H3.out o;have q4:=zb V.out o;have f:Hid _:=zdC Y q4 (.slice b1 Z.san d1) (.slice b2 Z.ldn d2) (.slice b3 Z.bkn d3) (int i64 0) (int i64 name) (int i64 price) (.slice ra N rc);have q:Hid _:=zhn (ze O o) (by omega) (by omega) f.out.2.2.2.1 f.out.2.2.2.2
  have W3:Hid _:=f.out.2.2.2.1.blk Y3.out (show ¬ d.heap.size=w.heap.size+1+1+1 by omega)
  have W4:Hid _:=f.out.2.2.2.1.blk Y4.out (show ¬ d.heap.size+1=w.heap.size+1+1+1 by omega)
  have W5:Hid _:=f.out.2.2.2.2.blk W3.out (show ¬ d.heap.size=w.heap.size+1+1+1+1 by omega)
  have W6:Hid _:=f.out.2.2.2.2.blk W4.out (show ¬ d.heap.size+1=w.heap.size+1+1+1+1 by omega)
  have a6:Hid _:=(H.out.box f.out.2.2.2.1 Y (by decide)).box f.out.2.2.2.2 f.out.1 (by decide)
  have r3:=f.out.2.2.2.1.own F.out (fun b e=>zQ F.out Y (by decide) b e)
  have d0:Hid _:=f.out.2.2.2.2.own r3 (fun b e=>zQ r3 f.out.1 (by decide) b e)
  clear r3 q4;unfold ZK qt at f q W3 W4 W5 W6 a6 d0
  (refine tkN 0 (v:=?_) rfl (by kernel_rfl) (fun _ _ _ h=>h) rfl (by assumption) ?_ ?_;rotate_left;(focus(intro w' h;(try dsimp only at h);go_simp;try with_reducible rfl));simp only[Act.put,sB,sZ,sS])
  (refine tkN 1 (v:=?_) rfl (by kernel_rfl) (fun _ _ _ h=>h) rfl (by assumption) ?_ ?_;rotate_left;(focus(intro w' h;(try dsimp only at h);go_simp;try with_reducible rfl));simp only[Act.put,sB,sZ,sS])
  obtain⟨p0,p1,p2⟩:=ce3 Y;obtain⟨g0,X,g2⟩:=fe3 Y;refine zj (rs:=[2]) (by kernel_rfl) (by simp) ?_
  refine zc.consL rfl (fun K I=>?_) zc.nil
  go_simp;refine I.out _ _ (⟨za W3.out 0 _ rfl,za W3.out 1 _ rfl,za W3.out 2 _ rfl,za W4.out 0 _ rfl,za W4.out 1 _ rfl,za W4.out 2 _ rfl,za W4.out 3 _ rfl⟩) (fun hS=>?_)
  clear I K p0 p1 p2 g0 X g2 Y;simp only[sZ,sS];obtain⟨p0,p1,p2,p3⟩:=ce4 f.out.1;obtain⟨g0,X,g2,g3⟩:=fe4 f.out.1;refine zj (rs:=[3]) (by kernel_rfl) (by simp) ?_
  refine zc.consL rfl (fun K I=>?_) zc.nil
  go_simp;refine I.out _ _ (⟨za W5.out 0 _ rfl,za W5.out 1 _ rfl,za W5.out 2 _ rfl,za W6.out 0 _ rfl,za W6.out 1 _ rfl,za W6.out 2 _ rfl,za W6.out 3 _ rfl⟩) (fun hS=>?_)
  clear I K p0 p1 p2 p3 g0 X g2 g3;simp only[sZ,sS]
  (refine tkN 4 (v:=?_) rfl (by kernel_rfl) (fun _ _ _ h=>h) rfl (by assumption) ?_ ?_;rotate_left;(focus(intro w' h;(try dsimp only at h);go_simp;try with_reducible rfl));simp only[Act.put,sB,sZ,sS])
  refine zX (by kernel_rfl) ?_ _
  clear hS;go_wp2;have Z3:=f.out.2.1;have Z4:=f.out.2.2.1;obtain⟨z0,z1,z2⟩:=ce3 Z3;obtain⟨t0,t1,t2,t3⟩:=ce4 Z4;refine bodyPost_ret (v:=.tuple #[.agg #[.slice b1 Z.san d1,.slice b2 Z.ldn d2,.slice b3 Z.bkn d3],.agg #[int i64 0,int i64 name,int i64 price,.slice ra N rc],.bool true]) (by simp[results,Tryz.results11,go_sem,z0,z1,z2,t0,t1,t2,t3]) rfl ?_
  exact⟨⟨Z,0,name,price,N,T,true,.inl ⟨⟨a5.out,b5.out⟩,rfl,R.out.1,R.out.2⟩,b1,d1,b2,d2,b3,d3,ra,rc,L,C,A,B,D,E,rfl,a6.out.lower (by omega),zu d0.out (by omega)⟩,q.out⟩
 ·have G:Below d.heap.size d (M.setCell ⟨l.heap.size,0,none⟩ (.iface 96 (.agg #[.iface 391 (.pointer (some (pe c)))]))):=J.setCell (p:=⟨l.heap.size,0,none⟩) (by show d.heap.size<=l.heap.size;omega) _
  have R:Hid (zhG x g y m x (c:Int) 0 0/\1<=c/\c<=8):=⟨S,X,g8⟩;clear S J hn X g8;generalize M.setCell ⟨l.heap.size,0,none⟩ (.iface 96 (.agg #[.iface 391 (.pointer (some (pe c)))]))=u4 at G ⊢;have o:Below d.heap.size d (u4.alloc (.cells #[.nilIface] 96)):=zk G _;have HR:=heap_alloc_new u4 (.cells #[.nilIface] 96);have b6:=hI G.size;clear G;go_wp2_with fail;generalize u4.alloc (.cells #[.nilIface] 96)=u5 at o HR ⊢;generalize u4.heap.size=gr at HR b6 ⊢;refine(as_hit (.iface 391 (.pointer (some (pe c)))) ⟨gr,0,none⟩ .nilIface u5 rfl ?_ (za HR 0 _ rfl) (zg HR 0)).mono ?_
  ·exact((ze O o).cell (p:=⟨0,0,none⟩) (World.block_lt_of_cell? w _ HG.out)).trans HG.out
  rintro e u6 ⟨rfl,b9⟩;have hp:=zk (zk (zk (zk (Below.refl u5.heap.size u5) (.cells #[.pointer (some ⟨gr,0,none⟩)] 98)) (.cells #[.pointer (some ⟨12,98,none⟩),.pointer (some ⟨u5.heap.size,0,none⟩),.int .u64 150] 186)) (.cells #[.pointer (some ⟨12,98,none⟩),.pointer (some ⟨u5.heap.size,0,none⟩),.int .u64 150] 186)) (.cells #[.iface 391 (.pointer (some (pe c)))] 96);have r:Hid (u6.heap[gr]?=some (.cells #[.iface 391 (.pointer (some (pe c)))] 96 (0,0))):=by rw[b9];exact zm (zb HR hp) 0 (.iface 391 (.pointer (some (pe c))))
  have j:Below d.heap.size d u6:=by rw[b9];exact(ze o hp).setCell (p:=⟨gr,0,none⟩) b6.out _
  clear b9 hp HR o;go_upto_region 10 with fail;have z:Below u6.heap.size u6 u6.drew:=bZ.drew;replace r:Hid _:=zb r.out z;replace j:=ze j z;have k:Hid _:=HD.out.below j;refine qg 9 9 (fun u=>u.cell? ⟨w.heap.size,0,none⟩=some (.slice a1 x.san c1)/\u.cell? ⟨w.heap.size,1,none⟩=some (.slice a2 x.ldn c2)/\u.cell? ⟨w.heap.size,2,none⟩=some (.slice W x.bkn c3)/\u.cell? ⟨gr,0,none⟩=some (.iface 391 (.pointer (some (pe c))))) rfl (by kernel_rfl) (⟨za k.out.bo 0 _ rfl,za k.out.bo 1 _ rfl,za k.out.bo 2 _ rfl,za r.out 0 _ rfl⟩) (fun hS=>?_)
  simp only[List.replicate_succ,List.replicate_zero];clear z;generalize u6.drew=u7 at r j k hS ⊢
  (refine tkN 0 (v:=?_) rfl (by kernel_rfl) (fun _ _ _ h=>h) rfl (by assumption) ?_ ?_;rotate_left;(focus(intro w' h;(try dsimp only at h);go_simp;try with_reducible rfl));simp only[Act.put,sB,sZ,sS])
  (refine tkN 2 (v:=?_) rfl (by kernel_rfl) (fun _ _ _ h=>h) rfl (by assumption) ?_ ?_;rotate_left;(focus(intro w' h;(try dsimp only at h);go_simp;try with_reducible rfl));simp only[Act.put,sB,sZ,sS])
  (refine tkN 3 (v:=?_) rfl (by kernel_rfl) (fun _ _ _ h=>h) rfl (by assumption) ?_ ?_;rotate_left;(focus(intro w' h;(try dsimp only at h);go_simp;try with_reducible rfl));simp only[Act.put,sB,sZ,sS])
  refine zj (rs:=[1]) (by kernel_rfl) (by simp) ?_
  refine zc.consL rfl (fun K I=>?_) zc.nil
  go_simp;go_at_call 54;refine Calls.mono (zeh x a1 a2 W c1 c2 c3 u7 HS.out (fun i hi=>(a5.out.2.2.2.2.1 i hi).2.2.2.1.1) ((a8.out.below O).below j)) ?_
  rintro e u8 ⟨⟨n1,n2,n3,L,C,A,B,D,E,rfl,a9⟩,t⟩;have b7:Hid _:=a9.lower j.size;dsimp only;replace j:=ze j t;replace r:Hid _:=zb r.out t;replace k:Hid _:=k.out.below t;refine I.out _ _ (⟨za k.out.bo 0 _ rfl,za k.out.bo 1 _ rfl,za k.out.bo 2 _ rfl,za r.out 0 _ rfl⟩) (fun hS=>?_)
  clear I K t a9;simp only[sZ,sS];refine zj (rs:=[4]) (by kernel_rfl) (by simp) ?_
  refine zc.consL rfl (fun K I=>?_) zc.nil
  go_simp;go_at_call 56;refine Calls.mono (znB pe c u8 ((HT.out.2.2.below O).below j) R.out.2.1 R.out.2.2) ?_;rintro e u9 ⟨rfl,t⟩;dsimp only;replace j:=ze j t;replace r:Hid _:=zb r.out t;replace k:Hid _:=k.out.below t;replace b7:Hid _:=b7.out.below t;refine I.out _ _ (⟨za k.out.bo 0 _ rfl,za k.out.bo 1 _ rfl,za k.out.bo 2 _ rfl,za r.out 0 _ rfl⟩) (fun hS=>?_)
  clear I K t;simp only[sZ,sS]
  (refine tkN 5 (v:=?_) rfl (by kernel_rfl) (fun _ _ _ h=>h) rfl (by assumption) ?_ ?_;rotate_left;(focus(intro w' h;(try dsimp only at h);go_simp;try with_reducible rfl));simp only[Act.put,sB,sZ,sS])
  have Y:=zb H3.out j;have q4:=zb V.out j;have f:Hid _:=zdC Y q4 (.slice (some ⟨n1,0,none⟩) x.san x.san) (.slice (some ⟨n2,0,none⟩) x.ldn x.ldn) (.slice (some ⟨n3,0,none⟩) x.bkn x.bkn) (int i64 c) (int i64 0) (int i64 0) (.slice none 0 0);have q:Hid _:=zhn (ze O j) (by omega) (by omega) f.out.2.2.2.1 f.out.2.2.2.2
  have c0:=b6.out;have W3:Hid _:=f.out.2.2.2.1.blk k.out.bo (show ¬ w.heap.size=w.heap.size+1+1+1 by omega)
  have W4:Hid _:=f.out.2.2.2.1.blk r.out (show ¬ gr=w.heap.size+1+1+1 by omega)
  have W5:Hid _:=f.out.2.2.2.2.blk W3.out (show ¬ w.heap.size=w.heap.size+1+1+1+1 by omega)
  have W6:Hid _:=f.out.2.2.2.2.blk W4.out (show ¬ gr=w.heap.size+1+1+1+1 by omega)
  have a6:Hid _:=(b7.out.box f.out.2.2.2.1 Y (by decide)).box f.out.2.2.2.2 f.out.1 (by decide)
  clear q4 c0;unfold ZK qt at f q W3 W4 W5 W6 a6;obtain⟨p0,p1,p2⟩:=ce3 Y;obtain⟨g0,X,g2⟩:=fe3 Y;refine zj (rs:=[6]) (by kernel_rfl) (by simp) ?_
  refine zc.consL rfl (fun K I=>?_) zc.nil
  go_simp;refine I.out _ _ (⟨za W3.out 0 _ rfl,za W3.out 1 _ rfl,za W3.out 2 _ rfl,za W4.out 0 _ rfl⟩) (fun hS=>?_)
  clear I K p0 p1 p2 g0 X g2 Y;simp only[sZ,sS];obtain⟨p0,p1,p2,p3⟩:=ce4 f.out.1;obtain⟨g0,X,g2,g3⟩:=fe4 f.out.1;refine zj (rs:=[7]) (by kernel_rfl) (by simp) ?_
  refine zc.consL rfl (fun K I=>?_) zc.nil
  go_simp;refine I.out _ _ (⟨za W5.out 0 _ rfl,za W5.out 1 _ rfl,za W5.out 2 _ rfl,za W6.out 0 _ rfl⟩) (fun hS=>?_)
  clear I K p0 p1 p2 p3 g0 X g2 g3;simp only[sZ,sS]
  (refine tkN 8 (v:=?_) rfl (by kernel_rfl) (fun _ _ _ h=>h) rfl (by assumption) ?_ ?_;rotate_left;(focus(intro w' h;(try dsimp only at h);go_simp;try with_reducible rfl));simp only[Act.put,sB,sZ,sS])
  refine zX (by kernel_rfl) ?_ _
  clear hS;go_wp2;have Z3:=f.out.2.1;have Z4:=f.out.2.2.1;obtain⟨z0,z1,z2⟩:=ce3 Z3;obtain⟨t0,t1,t2,t3⟩:=ce4 Z4;refine bodyPost_ret (v:=.tuple #[.agg #[.slice (some ⟨n1,0,none⟩) x.san x.san,.slice (some ⟨n2,0,none⟩) x.ldn x.ldn,.slice (some ⟨n3,0,none⟩) x.bkn x.bkn],.agg #[int i64 c,int i64 0,int i64 0,.slice none 0 0],.bool true]) (by simp[results,Tryz.results11,go_sem,z0,z1,z2,t0,t1,t2,t3]) rfl ?_
  have g4:=(ze O j).size;exact⟨⟨x,c,0,0,0,zeM [],true,.inl ⟨⟨a5.out,b5.out⟩,rfl,R.out.1,.inl ⟨rfl,fun _=>by have:=R.out.2.1;omega⟩⟩,_,_,_,_,_,_,none,0,L,C,A,B,D,E,rfl,a6.out.lower (by omega),zbS _ _ _ _⟩,q.out⟩
section
open Go.RowKit
theorem QK {u:World}{e a t v:Nat}{g h i j k l m n o p q r s c d:Value}(f:u.heap[e]?=some (.cells #[g,h,i] t (0,0)))(b:u.heap[a]?=some (.cells #[j,k,l,m,n,o,p,q,r,s,c,d] v (0,0))) :
  u.cell? ⟨e,0,none⟩=some g/\u.cell? ⟨e,1,none⟩=some h/\u.cell? ⟨e,2,none⟩=some i/\u.cell? ⟨a,0,none⟩=some j/\u.cell? ⟨a,1,none⟩=some k/\u.cell? ⟨a,2,none⟩=some l/\u.cell? ⟨a,3,none⟩=some m/\u.cell? ⟨a,4,none⟩=some n/\u.cell? ⟨a,5,none⟩=some o/\u.cell? ⟨a,6,none⟩=some p/\u.cell? ⟨a,7,none⟩=some q/\u.cell? ⟨a,8,none⟩=some r/\u.cell? ⟨a,9,none⟩=some s/\u.cell? ⟨a,10,none⟩=some c/\u.cell? ⟨a,11,none⟩=some d :=
 ⟨za f 0 g rfl,za f 1 h rfl,za f 2 i rfl,za b 0 j rfl,za b 1 k rfl,za b 2 l rfl,za b 3 m rfl,za b 4 n rfl,za b 5 o rfl,za b 6 p rfl,za b 7 q rfl,za b 8 r rfl,za b 9 s rfl,za b 10 c rfl,za b 11 d rfl⟩
abbrev DP:=Nat->Off->Int->Int->Int->Nat->(Nat->zcB)->Bool->Prop
def zla (P:DP)(base:Nat)(e:Ending)(u:World):Prop:=∃ rb x2 code name price N T ok,P rb x2 code name price N T ok/\zmO base rb x2 code name price N T ok e u
def DopB (P:DP)(base a b:Nat)(ok:Bool)(z:World):Prop :=
 ∃ rb x2 code name price N T,P rb x2 code name price N T ok/\∃ a1 c1 a2 c2 a3 c3 ar cr L C A B D E,z.heap[a]?=some (.cells #[.slice a1 x2.san c1,.slice a2 x2.ldn c2,.slice a3 x2.bkn c3] 38 (0,0))/\z.heap[b]?=some (.cells #[int i64 code,int i64 name,int i64 price,.slice ar N cr] 41 (0,0))/\zF z base (.slice a1 x2.san c1) (.slice a2 x2.ldn c2) (.slice a3 x2.bkn c3) x2.san x2.ldn x2.bkn x2 L C A B D E/\z.ownsRow rb 203 5 (.slice ar N cr) N (qW T N)
theorem zla.below {P:DP}{base:Nat}{e:Ending}{u b:World}(h:zla P base e u)(a:Below u.heap.size u b):zla P base e b:=by
 obtain⟨l,m,code,name,price,N,T,ok,k,c,c1,d,c2,f,c3,g,i,L,C,A,B,D,E,rfl,j,hr⟩:=h;exact⟨l,m,code,name,price,N,T,ok,k,c,c1,d,c2,f,c3,g,i,L,C,A,B,D,E,rfl,j.below a,zo a hr⟩
structure RG (w u:World)(j k:Nat)(ca d:Array Value)(x:Off)(y:OpD)(P:DP)(h i:Option Nat)(f g:Option (List Value))(r:Option Ending):Prop where
 bel:Below w.heap.size w u
 a:u.heap[j]?=some (.cells ca 26 (0,0))
 b:u.heap[k]?=some (.cells d 31 (0,0))
 h8:∀ q,h=some q->w.heap.size<=q/\u.heap[q]?=some (.cells #[.slice none 0 0,.slice none 0 0,.slice none 0 0] 38 (0,0))
 h9:∀ q,i=some q->w.heap.size<=q/\u.heap[q]?=some (.cells #[int i64 0,int i64 0,int i64 0,.slice none 0 0] 41 (0,0))
 i1:∀ c,f=some c->Off.Is u c x
 i2:∀ c,g=some c->OpD.Is u c y
 hr:∀ e,r=some e->zla P w.heap.size e u
section
variable {w u u' : World} {pA pB : Nat} {ca cb : Array Value} {x : Off} {y : OpD} {P : DP} {p8 p9 : Option Nat} {k1 k2 : Option (List Value)} {r : Option Ending}
theorem RG.below (h:RG w u pA pB ca cb x y P p8 p9 k1 k2 r)(a:Below u.heap.size u u'):RG w u' pA pB ca cb x y P p8 p9 k1 k2 r :=
 ⟨ze h.bel a,zb h.a a,zb h.b a,fun q e=>⟨(h.h8 q e).1,zb (h.h8 q e).2 a⟩,fun q e=>⟨(h.h9 q e).1,zb (h.h9 q e).2 a⟩,fun c e=>(h.i1 c e).below a,fun c e=>(h.i2 c e).below a,fun e q=>(h.hr e q).below a⟩
theorem RG.al8 (h:RG w u pA pB ca cb x y P none p9 k1 k2 r):RG w (u.alloc (.cells #[.slice none 0 0,.slice none 0 0,.slice none 0 0] 38)) pA pB ca cb x y P (some u.heap.size) p9 k1 k2 r:=by
 have k:=h.below (zk (Below.refl _ u) (.cells #[.slice none 0 0,.slice none 0 0,.slice none 0 0] 38));exact⟨k.bel,k.a,k.b,fun q e=>by cases e;exact⟨h.bel.size,heap_alloc_new u _⟩,k.h9,k.i1,k.i2,k.hr⟩
theorem RG.al9 (h:RG w u pA pB ca cb x y P p8 none k1 k2 r):RG w (u.alloc (.cells #[int i64 0,int i64 0,int i64 0,.slice none 0 0] 41)) pA pB ca cb x y P p8 (some u.heap.size) k1 k2 r:=by
 have k:=h.below (zk (Below.refl _ u) (.cells #[int i64 0,int i64 0,int i64 0,.slice none 0 0] 41));exact⟨k.bel,k.a,k.b,k.h8,fun q e=>by cases e;exact⟨h.bel.size,heap_alloc_new u _⟩,k.i1,k.i2,k.hr⟩
theorem RG.off (h:RG w u pA pB ca cb x y P p8 p9 none k2 r)(cs:List Value)(b:Off.Short x 1048576)(g:Off.Is w cs x) :
  Calls Tryz.prog 9 #[.agg cs.toArray] u fun e d=>∃ c,e=.returned (.agg c.toArray)/\Hid (RG w d pA pB ca cb x y P p8 p9 (some c) k2 r):=by
 refine(zdi cs x u b (g.below h.bel)).mono ?_;rintro e d ⟨c,rfl,a,f⟩;have k:=h.below f;exact⟨c,rfl,k.bel,k.a,k.b,k.h8,k.h9,fun q e=>by cases e;exact a.is b,k.i2,k.hr⟩
theorem RG.op (h:RG w u pA pB ca cb x y P p8 p9 k1 none r)(cs:List Value)(b:OpD.Short y 1048576)(g:OpD.Is w cs y) :
  Calls Tryz.prog 10 #[.agg cs.toArray] u fun e d=>∃ c,e=.returned (.agg c.toArray)/\Hid (RG w d pA pB ca cb x y P p8 p9 k1 (some c) r):=by
 refine(ziu cs y u b (g.below h.bel)).mono ?_;rintro e d ⟨c,rfl,a,f⟩;have k:=h.below f;exact⟨c,rfl,k.bel,k.a,k.b,k.h8,k.h9,k.i1,fun q e=>by cases e;exact a.is b,k.hr⟩
theorem RG.dop {c d:List Value}(h:RG w u pA pB ca cb x y P p8 p9 (some c) (some d) none)(F:FuncId)(i:Int)(m:∀ c d u,Below w.heap.size w u->Off.Is u c x->OpD.Is u d y->Calls Tryz.prog F #[.agg c.toArray,int i64 i,.agg d.toArray] u fun e l=>zla P u.heap.size e l/\Below u.heap.size u l) :
  Calls Tryz.prog F #[.agg c.toArray,int i64 i,.agg d.toArray] u fun e l=>∃ a n1 c1 b n2 c2 f n3 c3 code name price g n j ok,e=.returned (.tuple #[.agg #[.slice a n1 c1,.slice b n2 c2,.slice f n3 c3],.agg #[int i64 code,int i64 name,int i64 price,.slice g n j],.bool ok]) /\
   Hid (RG w l pA pB ca cb x y P p8 p9 (some c) (some d) (some (.returned (.tuple #[.agg #[.slice a n1 c1,.slice b n2 c2,.slice f n3 c3],.agg #[int i64 code,int i64 name,int i64 price,.slice g n j],.bool ok])))):=by
 refine(m c d u h.bel (h.i1 c rfl) (h.i2 d rfl)).mono ?_;rintro e l ⟨⟨s,t,code,name,price,N,T,ok,r,a,c1,b,c2,f,c3,g,j,L,C,A,B,D,E,rfl,p,hr⟩,o⟩;have k:=h.below o;exact⟨a,_,c1,b,_,c2,f,_,c3,code,name,price,g,N,j,ok,rfl,k.bel,k.a,k.b,k.h8,k.h9,k.i1,k.i2,fun q e=>by cases e;exact⟨s,t,code,name,price,N,T,ok,r,a,c1,b,c2,f,c3,g,j,L,C,A,B,D,E,rfl,p.lower h.bel.size,hr⟩⟩
theorem RG.fin {c i j k l n c1 c2 c3 o:Nat}{d f g m:Option Addr}{code name price:Int}{ok:Bool}(h:RG w u pA pB ca cb x y P (some c) (some i) k1 k2 (some (.returned (.tuple #[.agg #[.slice d j c1,.slice f k c2,.slice g l c3],.agg #[int i64 code,int i64 name,int i64 price,.slice m n o],.bool ok])))) :
  (u.heap[c]?=some (.cells #[.slice none 0 0,.slice none 0 0,.slice none 0 0] 38 (0,0))/\(qt u c (.slice d j c1) (.slice f k c2) (.slice g l c3)).heap[i]?=some (.cells #[int i64 0,int i64 0,int i64 0,.slice none 0 0] 41 (0,0))) /\
  ((qt u c (.slice d j c1) (.slice f k c2) (.slice g l c3)).heap[pA]?=some (.cells ca 26 (0,0))/\(qt u c (.slice d j c1) (.slice f k c2) (.slice g l c3)).heap[pB]?=some (.cells cb 31 (0,0))) /\
  ((ZK (qt u c (.slice d j c1) (.slice f k c2) (.slice g l c3)) i (int i64 code) (int i64 name) (int i64 price) (.slice m n o)).heap[pA]?=some (.cells ca 26 (0,0))/\(ZK (qt u c (.slice d j c1) (.slice f k c2) (.slice g l c3)) i (int i64 code) (int i64 name) (int i64 price) (.slice m n o)).heap[pB]?=some (.cells cb 31 (0,0))) /\
  DopB P w.heap.size c i ok (ZK (qt u c (.slice d j c1) (.slice f k c2) (.slice g l c3)) i (int i64 code) (int i64 name) (int i64 price) (.slice m n o))/\Below w.heap.size w (ZK (qt u c (.slice d j c1) (.slice f k c2) (.slice g l c3)) i (int i64 code) (int i64 name) (int i64 price) (.slice m n o))/\w.heap.size<=c/\w.heap.size<=i:=by
 obtain⟨O,h8⟩:=h.h8 c rfl;obtain⟨Q,h9⟩:=h.h9 i rfl;have a:=zdC h8 h9 (.slice d j c1) (.slice f k c2) (.slice g l c3) (int i64 code) (int i64 name) (int i64 price) (.slice m n o);have F:∀ {p q:Nat} {A B:Array Value} {s t:TypeId},u.heap[p]?=some (.cells A s (0,0))->u.heap[q]?=some (.cells B t (0,0))->s≠t->p≠q:=fun H M I e=>by
  subst e;rw[H] at M
  cases M
  exact I rfl
 have r:=a.2.2.2.1.blk h.a (F h.a h8 (by decide))
 have v:=a.2.2.2.1.blk h.b (F h.b h8 (by decide))
 obtain⟨rb,x2,G,J,z,N,T,a0,H,S,W,U,X,K,Y,V,Z,L,C,A,B,D,E,he,ho,hr⟩:=h.hr _ rfl
 cases he
 have R:=a.2.2.2.1.own hr (fun b e=>zQ hr h8 (by decide) b e)
 exact⟨⟨h8,a.1⟩,⟨r,v⟩,⟨a.2.2.2.2.blk r (F h.a h9 (by decide)),a.2.2.2.2.blk v (F h.b h9 (by decide))⟩,
  ⟨rb,x2,code,name,price,_,T,H,d,c1,f,c2,g,c3,m,o,L,C,A,B,D,E,a.2.1,a.2.2.1,(ho.box a.2.2.2.1 h8 (by decide)).box a.2.2.2.2 a.1 (by decide),a.2.2.2.2.own R (fun b e=>zQ R a.1 (by decide) b e)⟩,zhn h.bel O Q a.2.2.2.1 a.2.2.2.2,O,Q⟩
end
end
theorem l7Op_any (x:Off)(p n f G:Option Addr)(F t s K m:Nat)(a6:Int)(y:OpD)(w:World)(hs:Off.Short x 1048576)(m0:qB w p x.san x.sa)(l4:ZG w n x.ldn x.ld)(l1:qO w f x.bkn x.bk)(l5:zT w G y.lgn y.lg)(m1:qj G y.lgn K)(hl:y.lgn<=1048576)(ho:y.own.size<=1048576)(hO:Zk x)(hb:In a6 1 9999)(hx:∀ i,i<x.bkn->(x.bk i).who≠a6)(hm:zac y->In y.kind 4 8->y.name=(m:Int)+1/\m<=1048576) :
  Calls Tryz.prog 44 #[.agg #[.slice p x.san F,.slice n x.ldn t,.slice f x.bkn s],int i64 a6,.agg #[int i64 y.kind,.string y.own,int i64 y.name,.slice G y.lgn K,int i64 y.pe,int i64 y.len,int i64 y.hei,int i64 y.cl,.bool y.all,int i64 y.be,int i64 y.unt,int i64 y.now]] w fun e w'=>OpAns x a6 y m w.heap.size e w'/\Below w.heap.size w w':=by
 have HS:=hI hs;have HM:Hid (qB w p x.san x.sa/\ZG w n x.ldn x.ld/\qO w f x.bkn x.bk/\zT w G y.lgn y.lg/\qj G y.lgn K):=⟨m0,l4,l1,l5,m1⟩;have HG:Hid (Zk x/\In a6 1 9999/\∀ i,i<x.bkn->(x.bk i).who≠a6):=⟨hO,hb,hx⟩;have HN:=hI hm;have o7:x.san<=6:=hO.1.1;have l0:x.bkn<=30:=hO.2.2.1;have f3:=hI hO.2.1;clear hs m0 l4 l1 l5 m1 hO hb hx hm;have q:Below w.heap.size w ((((w.alloc (.cells #[.slice p x.san F,.slice n x.ldn t,.slice f x.bkn s] 38)).alloc (.cells #[int i64 y.kind,.string y.own,int i64 y.name,.slice G y.lgn K,int i64 y.pe,int i64 y.len,int i64 y.hei,int i64 y.cl,.bool y.all,int i64 y.be,int i64 y.unt,int i64 y.now] 47)).alloc (.cells #[.slice none 0 0,.slice none 0 0,.slice none 0 0] 38)).alloc (.cells #[int i64 0,int i64 0,int i64 0,.slice none 0 0] 41)):=zk (zk (zk (zk bZ _) _) _) _;have O:=zd (zd (zd (heap_alloc_new w (.cells #[.slice p x.san F,.slice n x.ldn t,.slice f x.bkn s] 38)) (.cells #[int i64 y.kind,.string y.own,int i64 y.name,.slice G y.lgn K,int i64 y.pe,int i64 y.len,int i64 y.hei,int i64 y.cl,.bool y.all,int i64 y.be,int i64 y.unt,int i64 y.now] 47)) (.cells #[.slice none 0 0,.slice none 0 0,.slice none 0 0] 38)) (.cells #[int i64 0,int i64 0,int i64 0,.slice none 0 0] 41);have P:=zd (zd (zfT w (.cells #[.slice p x.san F,.slice n x.ldn t,.slice f x.bkn s] 38) (.cells #[int i64 y.kind,.string y.own,int i64 y.name,.slice G y.lgn K,int i64 y.pe,int i64 y.len,int i64 y.hei,int i64 y.cl,.bool y.all,int i64 y.be,int i64 y.unt,int i64 y.now] 47)) (.cells #[.slice none 0 0,.slice none 0 0,.slice none 0 0] 38)) (.cells #[int i64 0,int i64 0,int i64 0,.slice none 0 0] 41);have N:=zd (show(((w.alloc (.cells #[.slice p x.san F,.slice n x.ldn t,.slice f x.bkn s] 38)).alloc (.cells #[int i64 y.kind,.string y.own,int i64 y.name,.slice G y.lgn K,int i64 y.pe,int i64 y.len,int i64 y.hei,int i64 y.cl,.bool y.all,int i64 y.be,int i64 y.unt,int i64 y.now] 47)).alloc (.cells #[.slice none 0 0,.slice none 0 0,.slice none 0 0] 38)).heap[w.heap.size+1+1]?=some (.cells #[.slice none 0 0,.slice none 0 0,.slice none 0 0] 38 (0,0)) from by simpa using heap_alloc_new ((w.alloc (.cells #[.slice p x.san F,.slice n x.ldn t,.slice f x.bkn s] 38)).alloc (.cells #[int i64 y.kind,.string y.own,int i64 y.name,.slice G y.lgn K,int i64 y.pe,int i64 y.len,int i64 y.hei,int i64 y.cl,.bool y.all,int i64 y.be,int i64 y.unt,int i64 y.now] 47)) (.cells #[.slice none 0 0,.slice none 0 0,.slice none 0 0] 38)) (.cells #[int i64 0,int i64 0,int i64 0,.slice none 0 0] 41)
 have H:((((w.alloc (.cells #[.slice p x.san F,.slice n x.ldn t,.slice f x.bkn s] 38)).alloc (.cells #[int i64 y.kind,.string y.own,int i64 y.name,.slice G y.lgn K,int i64 y.pe,int i64 y.len,int i64 y.hei,int i64 y.cl,.bool y.all,int i64 y.be,int i64 y.unt,int i64 y.now] 47)).alloc (.cells #[.slice none 0 0,.slice none 0 0,.slice none 0 0] 38)).alloc (.cells #[int i64 0,int i64 0,int i64 0,.slice none 0 0] 41)).heap[w.heap.size+1+1+1]?=some (.cells #[int i64 0,int i64 0,int i64 0,.slice none 0 0] 41 (0,0)):=by simpa using heap_alloc_new (((w.alloc (.cells #[.slice p x.san F,.slice n x.ldn t,.slice f x.bkn s] 38)).alloc (.cells #[int i64 y.kind,.string y.own,int i64 y.name,.slice G y.lgn K,int i64 y.pe,int i64 y.len,int i64 y.hei,int i64 y.cl,.bool y.all,int i64 y.be,int i64 y.unt,int i64 y.now] 47)).alloc (.cells #[.slice none 0 0,.slice none 0 0,.slice none 0 0] 38)) (.cells #[int i64 0,int i64 0,int i64 0,.slice none 0 0] 41)
 go_enter Tryz.func44,Tryz.ntmps44;go_wp2_with fail;generalize ((((w.alloc (.cells #[.slice p x.san F,.slice n x.ldn t,.slice f x.bkn s] 38)).alloc (.cells #[int i64 y.kind,.string y.own,int i64 y.name,.slice G y.lgn K,int i64 y.pe,int i64 y.len,int i64 y.hei,int i64 y.cl,.bool y.all,int i64 y.be,int i64 y.unt,int i64 y.now] 47)).alloc (.cells #[.slice none 0 0,.slice none 0 0,.slice none 0 0] 38)).alloc (.cells #[int i64 0,int i64 0,int i64 0,.slice none 0 0] 41))=W at q O P N H ⊢;refine(zmb p n f G x.san x.ldn x.bkn F t s K m x y _ (by omega) (by omega) hl (by omega) (HM.out.1.below q) (HM.out.2.2.1.below q) ⟨G,K,rfl,HM.out.2.2.2.1.below q,HM.out.2.2.2.2⟩ HN.out).mono ?_
 rintro e V ⟨⟨code,rfl,e9⟩,d6⟩;have k1:=hI e9;clear e9;replace q:=ze q d6;replace O:=zb O d6;replace P:=zb P d6;replace N:=zb N d6;replace H:=zb H d6;clear d6 W;obtain⟨f0,f1,f2⟩:=ce3 O
 by_cases hc:code=0
 case neg =>
  have d1:(code != 0)=true:=by simpa using hc
  have d2:(code == 0)=false:=by simpa using hc
  have HC:=hI hc;clear hc;go_wp2_with fail;refine(zdx p n f x.san x.ldn x.bkn F t s x _ rfl rfl rfl HS.out (HM.out.1.below q) (HM.out.2.1.below q) (HM.out.2.2.1.below q)).mono ?_;rintro e V9 ⟨⟨a1,c1,a2,c2,a3,c3,L9,C9,A9,B9,D9,E9,rfl,a0⟩,c0⟩;have e8:=ze q c0;have U:=zb N c0;have Q:=zb H c0;obtain⟨R,b5,b6,S,_⟩:=zie e8 (a0.lower q.size) U Q (by omega) (by omega) (int i64 code) (int i64 0) (int i64 0) (.slice none 0 0) rfl
  have a9:Hid _:=R;have a8:Hid _:=S;clear R S a0;obtain⟨s0,s1,s2⟩:=ce3 U;obtain⟨g4,g5,g6⟩:=fe3 U;obtain⟨t0,t1,t2,t3⟩:=ce4 Q;obtain⟨g7,g8,g9,i0⟩:=fe4 Q;go_wp2;obtain⟨x0,x1,x2⟩:=ce3 b5;obtain⟨z0,z1,z2,z3⟩:=ce4 b6;exact bodyPost_ret (v:=.tuple #[.agg #[.slice a1 x.san c1,.slice a2 x.ldn c2,.slice a3 x.bkn c3],.agg #[int i64 code,int i64 0,int i64 0,.slice none 0 0]]) (by simp[results,Tryz.results44,go_sem,x0,x1,x2,z0,z1,z2,z3]) rfl ⟨⟨x,_,_,_,_,_,_,_,_,_,_,_,_,_,_,_,_,rfl,a9.out,.inl ⟨HC.out,rfl,rfl,rfl,k1.out⟩,.inl ⟨rfl,fun _=>HC.out⟩⟩,a8.out⟩
 subst hc;have o8:w.heap.size+1+1+1<V.heap.size:=zM H;have a4:Hid (ZZ x y m):=znX k1.out (fun h1 h2=>(HN.out h1 h2).1)
 go_wp2_with fail;refine(zdx p n f x.san x.ldn x.bkn F t s x _ rfl rfl rfl HS.out (HM.out.1.below q) (HM.out.2.1.below q) (HM.out.2.2.1.below q)).mono ?_;rintro e V2 ⟨⟨a1,c1,a2,c2,a3,c3,L,C,A,B,D,E,rfl,a0⟩,I⟩;have k6:=hI a0;have i4:w.heap.size<=V.heap.size:=q.size;replace q:=ze q I;replace O:=zb O I;replace P:=zb P I;replace N:=zb N I;replace H:=zb H I;have e6:=hI (zM H);clear f0 f1 f2 a0;have g0:∀ o,(V2.alloc o).cell? ⟨w.heap.size,0,none⟩=some (.slice p x.san F):=fun o=>za (zd O o) 0 _ rfl
 have g1:∀ o,(V2.alloc o).cell? ⟨w.heap.size,1,none⟩=some (.slice n x.ldn t):=fun o=>za (zd O o) 1 _ rfl
 have g2:∀ o,(V2.alloc o).cell? ⟨w.heap.size,2,none⟩=some (.slice f x.bkn s):=fun o=>za (zd O o) 2 _ rfl
 have h0:∀ o,(V2.alloc o).cell? ⟨w.heap.size+1,0,none⟩=some (int i64 y.kind):=fun o=>za (zd P o) 0 _ rfl
 have h1:∀ o,(V2.alloc o).cell? ⟨w.heap.size+1,1,none⟩=some (.string y.own):=fun o=>za (zd P o) 1 _ rfl
 have h2:∀ o,(V2.alloc o).cell? ⟨w.heap.size+1,2,none⟩=some (int i64 y.name):=fun o=>za (zd P o) 2 _ rfl
 have h3:∀ o,(V2.alloc o).cell? ⟨w.heap.size+1,3,none⟩=some (.slice G y.lgn K):=fun o=>za (zd P o) 3 _ rfl
 have h4:∀ o,(V2.alloc o).cell? ⟨w.heap.size+1,4,none⟩=some (int i64 y.pe):=fun o=>za (zd P o) 4 _ rfl
 have h5:∀ o,(V2.alloc o).cell? ⟨w.heap.size+1,5,none⟩=some (int i64 y.len):=fun o=>za (zd P o) 5 _ rfl
 have h6:∀ o,(V2.alloc o).cell? ⟨w.heap.size+1,6,none⟩=some (int i64 y.hei):=fun o=>za (zd P o) 6 _ rfl
 have h7:∀ o,(V2.alloc o).cell? ⟨w.heap.size+1,7,none⟩=some (int i64 y.cl):=fun o=>za (zd P o) 7 _ rfl
 have h8:∀ o,(V2.alloc o).cell? ⟨w.heap.size+1,8,none⟩=some (.bool y.all):=fun o=>za (zd P o) 8 _ rfl
 have h9:∀ o,(V2.alloc o).cell? ⟨w.heap.size+1,9,none⟩=some (int i64 y.be):=fun o=>za (zd P o) 9 _ rfl
 have j6:∀ o,(V2.alloc o).cell? ⟨w.heap.size+1,10,none⟩=some (int i64 y.unt):=fun o=>za (zd P o) 10 _ rfl
 have j7:∀ o,(V2.alloc o).cell? ⟨w.heap.size+1,11,none⟩=some (int i64 y.now):=fun o=>za (zd P o) 11 _ rfl
 go_wp2_with fail;have bQ:=heap_alloc_new V2 (.cells #[.slice a1 x.san c1,.slice a2 x.ldn c2,.slice a3 x.bkn c3] 38);have i5:V.heap.size<=V2.heap.size:=I.size;have j2:Hid (zF (V2.alloc (.cells #[.slice a1 x.san c1,.slice a2 x.ldn c2,.slice a3 x.bkn c3] 38)) V.heap.size (.slice a1 x.san c1) (.slice a2 x.ldn c2) (.slice a3 x.bkn c3) x.san x.ldn x.bkn x L C A B D E):=k6.out.below (zk bZ _);replace q:=zk q (.cells #[.slice a1 x.san c1,.slice a2 x.ldn c2,.slice a3 x.bkn c3] 38);replace O:=zd O (.cells #[.slice a1 x.san c1,.slice a2 x.ldn c2,.slice a3 x.bkn c3] 38);replace P:=zd P (.cells #[.slice a1 x.san c1,.slice a2 x.ldn c2,.slice a3 x.bkn c3] 38);replace N:=zd N (.cells #[.slice a1 x.san c1,.slice a2 x.ldn c2,.slice a3 x.bkn c3] 38);replace H:=zd H (.cells #[.slice a1 x.san c1,.slice a2 x.ldn c2,.slice a3 x.bkn c3] 38);have o2:w.heap.size+1+1+1<V2.heap.size:=e6.out;generalize V2.alloc (.cells #[.slice a1 x.san c1,.slice a2 x.ldn c2,.slice a3 x.bkn c3] 38)=X at bQ j2 q O P N H ⊢;have c9:=zM bQ;generalize V2.heap.size=qb at bQ i5 o2 c9 ⊢;have l9:=hI c9;clear c9;clear e6 g0 g1 g2 h0 h1 h2 h3 h4 h5 h6 h7 h8 h9 j6 j7 k6 I V2;refine(zlR p n f G x.san x.ldn x.bkn F t s K m x y a6 _ (by omega) HS.out.2.2.2 hl (HM.out.2.2.1.below q) (HM.out.2.2.2.1.below q) (fun hk=>⟨(a4.out.2.2 (zaR hk)).1,(a4.out.2.2 (zaR hk)).2.1⟩)).mono ?_
 rintro e Y ⟨v,rfl,g3,b4⟩;have f5:=hI (zeK HG.out.1 a4.out HG.out.2.1 HG.out.2.2);obtain⟨l,f6⟩:∃ l,l=qk x a6 y m:=⟨_,rfl⟩;rw[← f6] at g3 f5;have HL:=hI f6;have p5:l.length<=1000:=by
  rw[f6];unfold qk;have q1:=zjg a4.out.1;have q2:=QD true (x.bk m).who ⟨(x.bk m).pe,(x.bk m).len,(x.bk m).hei,(x.bk m).cl,(x.bk m).all,(x.bk m).be⟩ (x.bk m).lg (x.bk m).lgn;have q3:=QD false a6 ⟨y.pe,y.len,y.hei,y.cl,y.all,y.be⟩ y.lg y.lgn;have q4:Qt y.kind->(x.bk m).lgn<=3:=fun hk=>(HG.out.1.2.2.2.2.1 m (a4.out.2.2 (zaR hk)).2.1).2.2.2.1.2.1
  rw[List.length_append];have p1:(if Qt y.kind then Zh true (x.bk m).who ⟨(x.bk m).pe,(x.bk m).len,(x.bk m).hei,(x.bk m).cl,(x.bk m).all,(x.bk m).be⟩ (x.bk m).lg (x.bk m).lgn else []).length<=9:=by
   by_cases c:Qt y.kind
   ·rw[if_pos c];have:=q4 c;omega
   ·rw[if_neg c];decide
  have p2:(if zJ y.kind then Zh false a6 ⟨y.pe,y.len,y.hei,y.cl,y.all,y.be⟩ y.lg y.lgn else []).length<=9:=by
   by_cases c:zJ y.kind
   ·rw[if_pos c];omega
   ·rw[if_neg c];decide
  omega
 clear f6;obtain⟨aw,cw,rfl,w1,w2,w3⟩:=zp g3;have k8:=hI g3;have f4:=hI (j2.out.below b4);have m3:X.heap.size<=Y.heap.size:=b4.size;replace q:=ze q b4;replace O:=zb O b4;replace P:=zb P b4;replace N:=zb N b4;replace H:=zb H b4;replace bQ:=zb bQ b4;have o4:qb<X.heap.size:=l9.out;clear g3 b4 w1 w2 w3 j2;rw[f3.out] at f4 bQ ⊢;have i3:Hid (∀ wr,zx Y wr (fun b=>(Value.slice a2 x.san c2).ownBlock=some b)->Below w.heap.size w wr/\wr.heap[w.heap.size]?=some (.cells #[.slice p x.san F,.slice n x.ldn t,.slice f x.bkn s] 38 (0,0))/\wr.heap[w.heap.size+1]?=some (.cells #[int i64 y.kind,.string y.own,int i64 y.name,.slice G y.lgn K,int i64 y.pe,int i64 y.len,int i64 y.hei,int i64 y.cl,.bool y.all,int i64 y.be,int i64 y.unt,int i64 y.now] 47 (0,0))/\wr.heap[w.heap.size+1+1]?=some (.cells #[.slice none 0 0,.slice none 0 0,.slice none 0 0] 38 (0,0))/\wr.heap[w.heap.size+1+1+1]?=some (.cells #[int i64 0,int i64 0,int i64 0,.slice none 0 0] 41 (0,0))/\wr.ownsRow X.heap.size 159 10 (.slice aw l.length cw) l.length (zgE l)):=fun wr hk=>by
  have J:∀ b,(Value.slice a2 x.san c2).ownBlock=some b->V.heap.size<=b:=fun b e=>(f4.out.ld.row.lt b e).1
  exact⟨zx.below q q.size hk (fun b e=>Nat.le_trans i4 (J b e)),hk.blk O (fun e=>by have:=J _ e;omega),hk.blk P (fun e=>by have:=J _ e;omega),hk.blk N (fun e=>by have:=J _ e;omega),hk.blk H (fun e=>by have:=J _ e;omega),hk.own k8.out (fun g h1 h2=>zI f4.out.ld.row k8.out (by decide) g h2 h1)⟩
 go_wp2;go_loopw [11,12,30] (fun _ _ i wr=>∃ (j:Nat) (M:Nat->zY) (A B D:Nat->Value),j<=l.length/\i=int i64 j/\Hid (zav x l j M)/\Hid (zF wr V.heap.size (.slice a1 x.san c1) (.slice a2 x.san c2) (.slice a3 x.bkn c3) x.san x.san x.bkn { x with ld:=M } L C A B D E)/\Hid (wr.heap[qb]?=some (.cells #[.slice a1 x.san c1,.slice a2 x.san c2,.slice a3 x.bkn c3] 38 (0,0)))/\Hid (zx Y wr (fun b=>(Value.slice a2 x.san c2).ownBlock=some b))) (fun _ _ i _=>l.length - (intOf i).toNat)
 case atStart=>exact⟨0,x.ld,_,_,_,Nat.zero_le _,rfl,zav.start HG.out.1 (fun v hv=>(f5.out.2 v hv).1),f4.out,bQ,zx.refl _ _⟩
 case round =>
  clear O P N H bQ q;obtain⟨j,M,A,B,D,hj,rfl,a5,j1,k0,i9⟩:=hrel;obtain⟨d,O,P,N,H,j8⟩:=i3.out wr i9.out
  by_cases hlt:j<l.length
  ·obtain⟨v,hv⟩:∃ v,l[j]?=some v:=⟨l[j],List.getElem?_eq_getElem hlt⟩
   have HV:=hI hv;have d9:Hid (WkOk x v):=(f5.out.2 v (List.mem_of_getElem? hv)).2;obtain⟨gw,rfl,_,o9⟩:=qh j8 (by omega)
   have a7:Hid (∀ r u,r<10->(wkC v)[r]?=some u->wr.cell? ⟨gw,j*10+r,none⟩=some u):=fun r u hr hu=>by
    rw[j8.cellAt (j*10+r) (by omega),zkX l j v HV.out r hr]
    exact hu
   have n2:wr.cell? ⟨gw,j*10,none⟩=some (int i64 v.leg):=a7.out 0 _ (by decide) rfl
   have n3:=a7.out 1 _ (by decide) rfl
   have n4:=a7.out 2 _ (by decide) rfl
   have n5:=a7.out 3 _ (by decide) rfl
   have n6:=a7.out 4 _ (by decide) rfl
   have n7:=a7.out 5 _ (by decide) rfl
   have n8:=a7.out 6 _ (by decide) rfl
   have n9:=a7.out 7 _ (by decide) rfl
   have o0:=a7.out 8 _ (by decide) rfl
   have o1:=a7.out 9 _ (by decide) rfl
   clear hv j8;obtain⟨k,hk⟩:∃ k,zW x.sa v.leg x.san=k:=⟨_,rfl⟩;have HK:=hI hk;have b9:Hid (k<x.san):=by have h:=d9.out.2.1;rw[hk] at h;exact h
   clear hk;have i1:(0:Int)<=(j:Int):=by omega
   have i2:(j:Int)<(l.length:Int):=by omega
   go_wp2_with fail;have f7:Below wr.heap.size wr (wr.alloc (.cells #[int i64 v.leg,int i64 (v.res:Int),.bool v.goes,int i64 v.who,int i64 v.p.pe,int i64 v.p.len,int i64 v.p.hei,int i64 v.p.cl,.bool v.p.all,int i64 v.p.be] 159)):=zk bZ _;have k4:=hI (j1.out.below f7);have j9:Hid ((wr.alloc (.cells #[int i64 v.leg,int i64 (v.res:Int),.bool v.goes,int i64 v.who,int i64 v.p.pe,int i64 v.p.len,int i64 v.p.hei,int i64 v.p.cl,.bool v.p.all,int i64 v.p.be] 159)).heap[qb]?=some (.cells #[.slice a1 x.san c1,.slice a2 x.san c2,.slice a3 x.bkn c3] 38 (0,0))):=zd k0.out _;have k2:=hI (i9.out.trans (zx.of_below f7));generalize wr.alloc (.cells #[int i64 v.leg,int i64 (v.res:Int),.bool v.goes,int i64 v.who,int i64 v.p.pe,int i64 v.p.len,int i64 v.p.hei,int i64 v.p.cl,.bool v.p.all,int i64 v.p.be] 159)=wa at f7 k4 j9 k2 ⊢;clear n2 n3 n4 n5 n6 n7 n8 n9 o0 o1 O P N H d f7;refine(l7Do_any qb V.heap.size x.san x.bkn k c1 c2 c3 a1 a2 a3 v { x with ld:=M } L C A B D E wa j9.out k4.out (by omega) HK.out b9.out (a5.out.good k b9.out) d9.out.1 (fun hg=>a5.out.there HV.out HK.out b9.out hg) (fun hg=>by have h:=(d9.out.2.2 hg).2.1.1;unfold In at h ⊢;omega)).mono ?_
   rintro e wd ⟨code,z,A',B',D',rfl,m4,l6,l8,l3⟩;have j3:=hI m4;have m9:=hI l6;have n0:Hid _:=l8;have k3:=hI (k2.out.trans l3);clear m4 l6 l8 l3
   by_cases hc:code=0
   ·subst hc
    go_wp2;go_roundw
    case rel=>exact⟨j+1,zht M k z,A',B',D',by omega,by go_num,a5.out.next f5.out.1 HV.out HK.out b9.out d9.out j3.out,m9.out,n0.out,k3.out⟩
    case measure=>simp[intOf];omega
   ·have d1:(code != 0)=true:=by simpa using hc
    have d2:(code == 0)=false:=by simpa using hc
    have HC:=hI hc;clear hc;obtain⟨d,O,P,N,H,_⟩:=i3.out wd k3.out;have m5:z=M k:=by
     rcases j3.out.on (a5.out.good k b9.out) (a5.out.comes HV.out HK.out b9.out d9.out) with⟨h,_⟩|⟨_,h⟩
     ·exact absurd h HC.out
     ·exact h
    have n1:Hid (qV (x.sa k) v (M k) code (M k)):=by have h:=j3.out;rw[m5] at h;exact h
    clear m5;obtain⟨f0,f1,f2⟩:=ce3 O;go_wp2_with fail;refine(zdx p n f x.san x.ldn x.bkn F t s x _ rfl rfl rfl HS.out (HM.out.1.below d) (HM.out.2.1.below d) (HM.out.2.2.1.below d)).mono ?_;rintro e V9 ⟨⟨a1,c1,a2,c2,a3,c3,L9,C9,A9,B9,D9,E9,rfl,a0⟩,c0⟩;have e8:=ze d c0;have U:=zb N c0;have Q:=zb H c0;obtain⟨R,b5,b6,S,_⟩:=zie e8 (a0.lower d.size) U Q (by omega) (by omega) (int i64 code) (int i64 0) (int i64 0) (.slice none 0 0) rfl
    have a9:Hid _:=R;have a8:Hid _:=S;clear R S a0;obtain⟨s0,s1,s2⟩:=ce3 U;obtain⟨g4,g5,g6⟩:=fe3 U;obtain⟨t0,t1,t2,t3⟩:=ce4 Q;obtain⟨g7,g8,g9,i0⟩:=fe4 Q;go_wp2;obtain⟨x0,x1,x2⟩:=ce3 b5;obtain⟨z0,z1,z2,z3⟩:=ce4 b6;exact bodyPost_ret (v:=.tuple #[.agg #[.slice a1 x.san c1,.slice a2 x.ldn c2,.slice a3 x.bkn c3],.agg #[int i64 code,int i64 0,int i64 0,.slice none 0 0]]) (by simp[results,Tryz.results44,go_sem,x0,x1,x2,z0,z1,z2,z3]) rfl ⟨⟨x,_,_,_,_,_,_,_,_,_,_,_,_,_,_,_,_,rfl,a9.out,.inr (.inl ⟨a4.out,HC.out,rfl,rfl,rfl,j,M,v,k,by rw[← HL.out];exact a5.out,by rw[← HL.out];exact HV.out,HK.out,b9.out,n1.out⟩),.inl ⟨rfl,fun _=>HC.out⟩⟩,a8.out⟩
  ·obtain rfl:j=l.length:=by omega
   obtain⟨h0,h1,h2,h3,h4,h5,h6,h7,h8,h9,j6,j7⟩:=zeW P;go_wp2_with fail;refine(l7End_any qb V.heap.size x.san x.bkn c1 c2 c3 K m a1 a2 a3 G a6 y { x with ld:=M } L C A B D E wr k0.out j1.out rfl rfl f3.out (Nat.le_trans (Nat.le_trans i5 (Nat.le_of_lt (Nat.lt_of_lt_of_le o4 m3))) i9.out.size) (HM.out.2.2.2.1.below d) HM.out.2.2.2.2 (fun h0 a ea=>by obtain⟨b',o6,e',o3⟩:=HM.out.2.2.2.1 0 h0;rw[ea] at e';cases e';have h1:=World.block_lt_of_cell? w _ o3;have h2:b'<w.heap.size:=h1;show b'<V.heap.size;omega) a4.out HG.out.1.1 l0 ⟨HS.out.1,⟨HS.out.2.1.1,fun i hi=>by have h:=a5.out.good i (by have:=f3.out;have h9:i<x.ldn:=hi;omega);exact⟨by have:=((QO _ _ _).1 h.1).2.1;show(M i).stn<=_;omega,by have:=h.2.1.2.1;show(M i).ron<=_;omega,by have:=h.2.2.2.1;show(M i).sen<=_;omega⟩⟩,HS.out.2.2⟩ (fun i hi=>(HG.out.1.2.2.2.2.1 i hi).2.2.2.1)).mono ?_
   rintro e we ⟨x3,code,name,price,l2,e0,e4,rv,E',rfl,f9,l7,f8,d7⟩;obtain⟨ra,rn,rc,rfl⟩:∃ ra rn rc,rv=.slice ra rn rc:=by
    by_cases h9:y.kind=9
    ·obtain⟨_,_,_,h3⟩:=f9.1 h9
     obtain⟨ao,c,e,_⟩:=zp h3;exact⟨ao,_,c,e⟩
    ·exact⟨none,0,0,f9.2 h9⟩
   have b7:=hI l2;have k7:=hI f9;have j0:=hI l7;have J:∀ b,b=qb∨(Value.slice a3 x.bkn c3).ownBlock=some b->V.heap.size<=b:=fun b e=>by
    rcases e with e|e
    ·omega
    ·exact(j1.out.bk.row.lt b e).1
   replace O:=d7.blk O (fun e=>by have:=J _ e;omega)
   replace P:=d7.blk P (fun e=>by have:=J _ e;omega)
   replace N:=d7.blk N (fun e=>by have:=J _ e;omega)
   replace H:=d7.blk H (fun e=>by have:=J _ e;omega)
   replace d:=zx.below d d.size d7 (fun b e=>by have:=J _ e;omega)
   clear h0 h1 h2 h3 h4 h5 h6 h7 h8 h9 j6 j7 l2 f9 l7 d7 J;have p3:∀ o,(we.alloc o).cell? ⟨w.heap.size+1,0,none⟩=some (int i64 y.kind):=fun o=>za (zd P o) 0 _ rfl
   by_cases hc:code=0/\y.kind≠1
   case neg =>
    have HC:Hid (code≠0∨y.kind=1):=by
     by_cases h:code=0
     ·exact .inr (by by_cases h2:y.kind=1;exact h2;exact absurd ⟨h,h2⟩ hc)
     ·exact .inl h
    have o5:=k7.out.2 (b7.out.nine HC.out)
    cases o5
    clear hc
    by_cases hc:code=0
    ·have hk:y.kind=1:=by rcases HC.out with h|h;exact absurd hc h;exact h
     subst hc;have d1:(y.kind == 1)=true:=by simpa using hk
     have p4:=hk;clear hk;have bT:=heap_alloc_new we (.cells #[int i64 0,int i64 name,int i64 price,.slice none 0 0] 41);have e5:w.heap.size+1+1+1<we.heap.size:=zM H;go_upto_region 14 with fail;replace O:=zd O (.cells #[int i64 0,int i64 name,int i64 price,.slice none 0 0] 41);have j4:=N;have j5:=H;replace N:=zd N (.cells #[int i64 0,int i64 name,int i64 price,.slice none 0 0] 41);replace H:=zd H (.cells #[int i64 0,int i64 name,int i64 price,.slice none 0 0] 41);replace d:=zk d (.cells #[int i64 0,int i64 name,int i64 price,.slice none 0 0] 41);have d8:=zd f8 (.cells #[int i64 0,int i64 name,int i64 price,.slice none 0 0] 41);have d0:Hid _:=j0.out.below (zk bZ (.cells #[int i64 0,int i64 name,int i64 price,.slice none 0 0] 41));have d4:Hid (zx we (we.alloc (.cells #[int i64 0,int i64 name,int i64 price,.slice none 0 0] 41)) (fun b=>b=w.heap.size+1+1∨b=w.heap.size+1+1+1)):=zx.of_below (zk bZ _)
     generalize we.alloc (.cells #[int i64 0,int i64 name,int i64 price,.slice none 0 0] 41)=wf at bT O N H d d8 d0 d4 ⊢;generalize we.heap.size=T at bT e5 ⊢;have p0:=O;have pT:=bT;have KS:Hid (∀ z:World,z.heap[w.heap.size]?=some (.cells #[.slice p x.san F,.slice n x.ldn t,.slice f x.bkn s] 38 (0,0))->z.heap[T]?=some (.cells #[int i64 0,int i64 name,int i64 price,.slice none 0 0] 41 (0,0))->z.cell? ⟨w.heap.size,0,none⟩=some (.slice p x.san F)/\z.cell? ⟨w.heap.size,1,none⟩=some (.slice n x.ldn t)/\z.cell? ⟨w.heap.size,2,none⟩=some (.slice f x.bkn s)/\z.cell? ⟨T,0,none⟩=some (int i64 0)/\z.cell? ⟨T,1,none⟩=some (int i64 name)/\z.cell? ⟨T,2,none⟩=some (int i64 price)/\z.cell? ⟨T,3,none⟩=some (.slice none 0 0)):=fun z h1 h2=>⟨za h1 0 _ rfl,za h1 1 _ rfl,za h1 2 _ rfl,za h2 0 _ rfl,za h2 1 _ rfl,za h2 2 _ rfl,za h2 3 _ rfl⟩
     have i7:Hid (∀ Z,Below wf.heap.size wf Z->Calls Tryz.prog 70 #[.agg #[.slice p x.san F,.slice n x.ldn t,.slice f x.bkn s]] Z fun e u=>(∃ d1 e1 d2 e2 d3 e3 L C A B D E,e=.returned (.agg #[.slice d1 x.san e1,.slice d2 x.ldn e2,.slice d3 x.bkn e3])/\Hid (zF u w.heap.size (.slice d1 x.san e1) (.slice d2 x.ldn e2) (.slice d3 x.bkn e3) x.san x.ldn x.bkn x L C A B D E))/\Below wf.heap.size wf u):=fun Z hZ=>by
      refine(zdx p n f x.san x.ldn x.bkn F t s x Z rfl rfl rfl HS.out (HM.out.1.below (ze d hZ)) (HM.out.2.1.below (ze d hZ)) (HM.out.2.2.1.below (ze d hZ))).mono ?_;rintro e u ⟨⟨d1,e1,d2,e2,d3,e3,L',C',A',B',D',E',rfl,h⟩,hb⟩;exact⟨⟨d1,e1,d2,e2,d3,e3,L',C',A',B',D',E',rfl,h.lower (ze d hZ).size⟩,ze hZ hb⟩
     go_region_held3 (fun w'=>w'.cell? ⟨w.heap.size,0,none⟩=some (.slice p x.san F)/\w'.cell? ⟨w.heap.size,1,none⟩=some (.slice n x.ldn t)/\w'.cell? ⟨w.heap.size,2,none⟩=some (.slice f x.bkn s)/\w'.cell? ⟨T,0,none⟩=some (int i64 0)/\w'.cell? ⟨T,1,none⟩=some (int i64 name)/\w'.cell? ⟨T,2,none⟩=some (int i64 price)/\w'.cell? ⟨T,3,none⟩=some (.slice none 0 0))
      (first|(refine KS.out _ ?_ ?_ <;> (repeat(first|with_reducible exact p0|with_reducible exact pT|(with_reducible refine zK ?_)|(with_reducible refine zD ?_ _ _ ?_;rotate_left;(focus omega))))))
      (first
       | (go_simp;go_at_call 70;(with_reducible refine Calls.mono (i7.out _ ?_) ?_);(focus(repeat(first | exact bZ | refine Below.drew ?_ | refine zk ?_ _)));rintro e u2 ⟨⟨d1,e1,d2,e2,d3,e3,L9,C9,A9,B9,D9,E9,rfl,a0⟩,I⟩;have i6:=hI I;replace p0:=zb p0 I;replace pT:=zb pT I;have U:=zb N I;have Q:=zb H I;have s0:=za U 0 _ rfl;have g4:=zg U 0;have s1:=za U 1 _ rfl;have g5:=zg U 1;have s2:=za U 2 _ rfl;have g6:=zg U 2;have t0:=za Q 0 _ rfl;have g7:=zg Q 0;have t1:=za Q 1 _ rfl;have g8:=zg Q 1;have t2:=za Q 2 _ rfl;have g9:=zg Q 2;have t3:=za Q 3 _ rfl;have i0:=zg Q 3;dsimp only))
     ·have e7:=ze d i6.out
      obtain⟨R,b5,b6,S,b8⟩:=zie e7 a0.out U Q (by omega) (by omega) (int i64 0) (int i64 name) (int i64 price) (.slice none 0 0) rfl
      have a9:Hid _:=R;have a8:Hid _:=S;have i8:Hid _:=b8;clear R S b8;obtain⟨x0,x1,x2⟩:=ce3 b5;obtain⟨z0,z1,z2,z3⟩:=ce4 b6;go_wp2;exact bodyPost_ret (v:=.tuple #[.agg #[.slice d1 x.san e1,.slice d2 x.ldn e2,.slice d3 x.bkn e3],.agg #[int i64 0,int i64 name,int i64 price,.slice none 0 0]]) (by simp[results,Tryz.results44,go_sem,x0,x1,x2,z0,z1,z2,z3]) rfl ⟨⟨x,_,_,_,_,_,_,_,_,_,_,_,_,_,_,_,_,rfl,a9.out,.inr (.inr ⟨a4.out,M,x3,by rw[← HL.out];exact a5.out,b7.out,fun _=>rfl,fun h=>absurd HC.out h⟩),.inl ⟨rfl,fun h9=>absurd h9 (b7.out.nine HC.out)⟩⟩,a8.out⟩
    ·have d1:(code != 0)=true:=by simpa using hc
     have d2:(code == 0)=false:=by simpa using hc
     clear hc;have bT:=heap_alloc_new we (.cells #[int i64 code,int i64 name,int i64 price,.slice none 0 0] 41);have e5:w.heap.size+1+1+1<we.heap.size:=zM H;go_upto_region 14 with fail;replace O:=zd O (.cells #[int i64 code,int i64 name,int i64 price,.slice none 0 0] 41);have j4:=N;have j5:=H;replace N:=zd N (.cells #[int i64 code,int i64 name,int i64 price,.slice none 0 0] 41);replace H:=zd H (.cells #[int i64 code,int i64 name,int i64 price,.slice none 0 0] 41);replace d:=zk d (.cells #[int i64 code,int i64 name,int i64 price,.slice none 0 0] 41);have d8:=zd f8 (.cells #[int i64 code,int i64 name,int i64 price,.slice none 0 0] 41);have d0:Hid _:=j0.out.below (zk bZ (.cells #[int i64 code,int i64 name,int i64 price,.slice none 0 0] 41));have d4:Hid (zx we (we.alloc (.cells #[int i64 code,int i64 name,int i64 price,.slice none 0 0] 41)) (fun b=>b=w.heap.size+1+1∨b=w.heap.size+1+1+1)):=zx.of_below (zk bZ _)
     generalize we.alloc (.cells #[int i64 code,int i64 name,int i64 price,.slice none 0 0] 41)=wf at bT O N H d d8 d0 d4 ⊢;generalize we.heap.size=T at bT e5 ⊢;have p0:=O;have pT:=bT;have KS:Hid (∀ z:World,z.heap[w.heap.size]?=some (.cells #[.slice p x.san F,.slice n x.ldn t,.slice f x.bkn s] 38 (0,0))->z.heap[T]?=some (.cells #[int i64 code,int i64 name,int i64 price,.slice none 0 0] 41 (0,0))->z.cell? ⟨w.heap.size,0,none⟩=some (.slice p x.san F)/\z.cell? ⟨w.heap.size,1,none⟩=some (.slice n x.ldn t)/\z.cell? ⟨w.heap.size,2,none⟩=some (.slice f x.bkn s)/\z.cell? ⟨T,0,none⟩=some (int i64 code)/\z.cell? ⟨T,1,none⟩=some (int i64 name)/\z.cell? ⟨T,2,none⟩=some (int i64 price)/\z.cell? ⟨T,3,none⟩=some (.slice none 0 0)):=fun z h1 h2=>⟨za h1 0 _ rfl,za h1 1 _ rfl,za h1 2 _ rfl,za h2 0 _ rfl,za h2 1 _ rfl,za h2 2 _ rfl,za h2 3 _ rfl⟩
     have i7:Hid (∀ Z,Below wf.heap.size wf Z->Calls Tryz.prog 70 #[.agg #[.slice p x.san F,.slice n x.ldn t,.slice f x.bkn s]] Z fun e u=>(∃ d1 e1 d2 e2 d3 e3 L C A B D E,e=.returned (.agg #[.slice d1 x.san e1,.slice d2 x.ldn e2,.slice d3 x.bkn e3])/\Hid (zF u w.heap.size (.slice d1 x.san e1) (.slice d2 x.ldn e2) (.slice d3 x.bkn e3) x.san x.ldn x.bkn x L C A B D E))/\Below wf.heap.size wf u):=fun Z hZ=>by
      refine(zdx p n f x.san x.ldn x.bkn F t s x Z rfl rfl rfl HS.out (HM.out.1.below (ze d hZ)) (HM.out.2.1.below (ze d hZ)) (HM.out.2.2.1.below (ze d hZ))).mono ?_;rintro e u ⟨⟨d1,e1,d2,e2,d3,e3,L',C',A',B',D',E',rfl,h⟩,hb⟩;exact⟨⟨d1,e1,d2,e2,d3,e3,L',C',A',B',D',E',rfl,h.lower (ze d hZ).size⟩,ze hZ hb⟩
     go_region_held3 (fun w'=>w'.cell? ⟨w.heap.size,0,none⟩=some (.slice p x.san F)/\w'.cell? ⟨w.heap.size,1,none⟩=some (.slice n x.ldn t)/\w'.cell? ⟨w.heap.size,2,none⟩=some (.slice f x.bkn s)/\w'.cell? ⟨T,0,none⟩=some (int i64 code)/\w'.cell? ⟨T,1,none⟩=some (int i64 name)/\w'.cell? ⟨T,2,none⟩=some (int i64 price)/\w'.cell? ⟨T,3,none⟩=some (.slice none 0 0))
      (first|(refine KS.out _ ?_ ?_ <;> (repeat(first|with_reducible exact p0|with_reducible exact pT|(with_reducible refine zK ?_)|(with_reducible refine zD ?_ _ _ ?_;rotate_left;(focus omega))))))
      (first
       | (go_simp;go_at_call 70;(with_reducible refine Calls.mono (i7.out _ ?_) ?_);(focus(repeat(first | exact bZ | refine Below.drew ?_ | refine zk ?_ _)));rintro e u2 ⟨⟨d1,e1,d2,e2,d3,e3,L9,C9,A9,B9,D9,E9,rfl,a0⟩,I⟩;have i6:=hI I;replace p0:=zb p0 I;replace pT:=zb pT I;have U:=zb N I;have Q:=zb H I;have s0:=za U 0 _ rfl;have g4:=zg U 0;have s1:=za U 1 _ rfl;have g5:=zg U 1;have s2:=za U 2 _ rfl;have g6:=zg U 2;have t0:=za Q 0 _ rfl;have g7:=zg Q 0;have t1:=za Q 1 _ rfl;have g8:=zg Q 1;have t2:=za Q 2 _ rfl;have g9:=zg Q 2;have t3:=za Q 3 _ rfl;have i0:=zg Q 3;dsimp only))
     ·have e7:=ze d i6.out
      obtain⟨R,b5,b6,S,b8⟩:=zie e7 a0.out U Q (by omega) (by omega) (int i64 code) (int i64 name) (int i64 price) (.slice none 0 0) rfl
      have a9:Hid _:=R;have a8:Hid _:=S;have i8:Hid _:=b8;clear R S b8;obtain⟨x0,x1,x2⟩:=ce3 b5;obtain⟨z0,z1,z2,z3⟩:=ce4 b6;go_wp2;exact bodyPost_ret (v:=.tuple #[.agg #[.slice d1 x.san e1,.slice d2 x.ldn e2,.slice d3 x.bkn e3],.agg #[int i64 code,int i64 name,int i64 price,.slice none 0 0]]) (by simp[results,Tryz.results44,go_sem,x0,x1,x2,z0,z1,z2,z3]) rfl ⟨⟨x,_,_,_,_,_,_,_,_,_,_,_,_,_,_,_,_,rfl,a9.out,.inr (.inr ⟨a4.out,M,x3,by rw[← HL.out];exact a5.out,b7.out,fun _=>rfl,fun h=>absurd HC.out h⟩),.inl ⟨rfl,fun h9=>absurd h9 (b7.out.nine HC.out)⟩⟩,a8.out⟩
   obtain⟨hc,hk⟩:=hc;subst hc;have d1:(y.kind == 1)=false:=by simpa using hk
   have m8:=hI hk;clear hk;have m2:x3.san=x.san/\x3.ldn=x.san:=⟨b7.out.size.1,b7.out.size.2.trans f3.out⟩;obtain⟨p7,m7,p6,m6,d5,k9⟩:=x3;obtain⟨e1,e2⟩:=m2;dsimp only at e1 e2 f8;subst e1;subst e2;have k5:=hI j0.out;have bT:=heap_alloc_new we (.cells #[int i64 0,int i64 name,int i64 price,.slice ra rn rc] 41);have e5:w.heap.size+1+1+1<we.heap.size:=zM H;go_upto_region 15 with fail;replace O:=zd O (.cells #[int i64 0,int i64 name,int i64 price,.slice ra rn rc] 41);have j4:=N;have j5:=H;replace N:=zd N (.cells #[int i64 0,int i64 name,int i64 price,.slice ra rn rc] 41);replace H:=zd H (.cells #[int i64 0,int i64 name,int i64 price,.slice ra rn rc] 41);replace d:=zk d (.cells #[int i64 0,int i64 name,int i64 price,.slice ra rn rc] 41);have d8:=zd f8 (.cells #[int i64 0,int i64 name,int i64 price,.slice ra rn rc] 41);have d0:Hid _:=k5.out.below (zk bZ (.cells #[int i64 0,int i64 name,int i64 price,.slice ra rn rc] 41));have d4:Hid (zx we (we.alloc (.cells #[int i64 0,int i64 name,int i64 price,.slice ra rn rc] 41)) (fun b=>b=w.heap.size+1+1∨b=w.heap.size+1+1+1)):=zx.of_below (zk bZ _)
   generalize we.alloc (.cells #[int i64 0,int i64 name,int i64 price,.slice ra rn rc] 41)=wf at bT O N H d d8 d0 d4 ⊢;generalize we.heap.size=T at bT e5 ⊢;have p0:=d8;have pT:=bT;have KS:Hid (∀ z:World,z.heap[qb]?=some (.cells #[.slice a1 x.san c1,.slice a2 x.san c2,.slice e0 d5 e4] 38 (0,0))->z.heap[T]?=some (.cells #[int i64 0,int i64 name,int i64 price,.slice ra rn rc] 41 (0,0))->z.cell? ⟨qb,0,none⟩=some (.slice a1 x.san c1)/\z.cell? ⟨qb,1,none⟩=some (.slice a2 x.san c2)/\z.cell? ⟨qb,2,none⟩=some (.slice e0 d5 e4)/\z.cell? ⟨T,0,none⟩=some (int i64 0)/\z.cell? ⟨T,1,none⟩=some (int i64 name)/\z.cell? ⟨T,2,none⟩=some (int i64 price)/\z.cell? ⟨T,3,none⟩=some (.slice ra rn rc)):=fun z h1 h2=>⟨za h1 0 _ rfl,za h1 1 _ rfl,za h1 2 _ rfl,za h2 0 _ rfl,za h2 1 _ rfl,za h2 2 _ rfl,za h2 3 _ rfl⟩
   have U:=N;have Q:=H;obtain⟨s0,s1,s2⟩:=ce3 U;obtain⟨g4,g5,g6⟩:=fe3 U;obtain⟨t0,t1,t2,t3⟩:=ce4 Q;obtain⟨g7,g8,g9,i0⟩:=fe4 Q;go_region_held3 (fun w'=>w'.cell? ⟨qb,0,none⟩=some (.slice a1 x.san c1)/\w'.cell? ⟨qb,1,none⟩=some (.slice a2 x.san c2)/\w'.cell? ⟨qb,2,none⟩=some (.slice e0 d5 e4)/\w'.cell? ⟨T,0,none⟩=some (int i64 0)/\w'.cell? ⟨T,1,none⟩=some (int i64 name)/\w'.cell? ⟨T,2,none⟩=some (int i64 price)/\w'.cell? ⟨T,3,none⟩=some (.slice ra rn rc))
    (first|(refine KS.out _ ?_ ?_ <;> (repeat(first|with_reducible exact p0|with_reducible exact pT|(with_reducible refine zK ?_)|(with_reducible refine zD ?_ _ _ ?_;rotate_left;(focus omega))))))
    (fail)
   ·have e7:=d
    obtain⟨R,b5,b6,S,b8⟩:=zie e7 (d0.out.lower i4) U Q (by omega) (by omega) (int i64 0) (int i64 name) (int i64 price) (.slice ra rn rc) rfl
    have a9:Hid _:=R.below (Below.drew bZ);have a8:Hid _:=Below.drew S;have i8:Hid _:=b8.trans (zx.of_below (Below.drew bZ));clear R S b8;obtain⟨x0,x1,x2⟩:=ce3 (zK b5);obtain⟨z0,z1,z2,z3⟩:=ce4 (zK b6);go_wp2;refine bodyPost_ret (v:=.tuple #[.agg #[.slice a1 x.san c1,.slice a2 x.san c2,.slice e0 d5 e4],.agg #[int i64 0,int i64 name,int i64 price,.slice ra rn rc]]) (by simp[results,Tryz.results44,go_sem,x0,x1,x2,z0,z1,z2,z3]) rfl ⟨⟨⟨x.san,m7,x.san,m6,d5,k9⟩,a1,c1,a2,c2,e0,e4,0,name,price,.slice ra rn rc,L,C,A,B,D,E',rfl,?_,?_,?_⟩,a8.out⟩
    ·exact a9.out
    ·exact .inr (.inr ⟨a4.out,M,⟨x.san,m7,x.san,m6,d5,k9⟩,by rw[← HL.out];exact a5.out,b7.out,fun h=>by rcases h with h|h;exact absurd rfl h;exact absurd h m8.out,fun _=>rfl⟩)
    ·exact .inr ⟨M,_,a4.out,by rw[← HL.out];exact a5.out,zeQ k7.out (d4.out.trans i8.out) (fun g e=>by rcases e with e|e;exact⟨_,_,by rw[e];exact j4,by decide⟩;exact⟨_,_,by rw[e];exact j5,by decide⟩)⟩
theorem zjo (x:Off)(u D:Option Addr)(bb bo z F s:Nat)(i:Nat)(C:Nat->List Value)(w:World)(hi:i<x.bkn)(hs:Off.Short x 1048576)
  (b6:qB w u x.san x.sa) (hC:QT w (some ⟨bb,bo,none⟩) x.bkn 13 C) (hI:∀ k,k<x.bkn->ql.Is w (C k) (x.bk k)) (e8:x.bkn<=s) :
  Calls Tryz.prog 85 #[.agg #[.slice u x.san z,.slice D x.ldn F,.slice (some ⟨bb,bo,none⟩) x.bkn s],int i64 i] w fun e w'=>qX (Zt x i) e/\Below w.heap.size w w':=by
 have d1:=hI b6;have HC:=hI hC;have HI:=hI hI;have b4:=hI hs;have e7:x.bkn<=1048576:=hs.2.2.1;clear b6 hC hI hs;obtain⟨b0,e6,e0,l⟩:=HC.out i hi;simp only[Option.some.injEq,Addr.mk.injEq,and_true] at e0;obtain⟨rfl,rfl⟩:=e0;obtain⟨E,G,g,Z,b9⟩:=HI.out i hi;obtain⟨b,hb⟩:∃ b,b=x.bk i:=⟨_,rfl⟩;rw[← hb] at g Z b9;have y:=hI hb;have d0:=hI Z;have b3:Hid (ql.Short b 1048576):=by rw[hb];exact b4.out.2.2.2 i hi
 have a:bb<w.heap.size:=World.block_lt_of_cell? w _ (l 0 (by decide))
 have g0:w.cell? ⟨bb,bo+i*13,none⟩=some (int i64 b.name):=by have:=l 0 (by decide);rw[g] at this;exact this
 have g1:w.cell? ⟨bb,bo+i*13+1,none⟩=some (int i64 b.who):=by have:=l 1 (by decide);rw[g] at this;exact this
 have g2:w.cell? ⟨bb,bo+i*13+2,none⟩=some (.string b.own):=by have:=l 2 (by decide);rw[g] at this;exact this
 have g3:w.cell? ⟨bb,bo+i*13+3,none⟩=some (.slice E b.lgn G):=by have:=l 3 (by decide);rw[g] at this;exact this
 have g4:w.cell? ⟨bb,bo+i*13+4,none⟩=some (int i64 b.pe):=by have:=l 4 (by decide);rw[g] at this;exact this
 have g5:w.cell? ⟨bb,bo+i*13+5,none⟩=some (int i64 b.len):=by have:=l 5 (by decide);rw[g] at this;exact this
 have g6:w.cell? ⟨bb,bo+i*13+6,none⟩=some (int i64 b.hei):=by have:=l 6 (by decide);rw[g] at this;exact this
 have g7:w.cell? ⟨bb,bo+i*13+7,none⟩=some (int i64 b.cl):=by have:=l 7 (by decide);rw[g] at this;exact this
 have g8:w.cell? ⟨bb,bo+i*13+8,none⟩=some (.bool b.all):=by have:=l 8 (by decide);rw[g] at this;exact this
 have g9:w.cell? ⟨bb,bo+i*13+9,none⟩=some (int i64 b.be):=by have:=l 9 (by decide);rw[g] at this;exact this
 have V:w.cell? ⟨bb,bo+i*13+10,none⟩=some (int i64 b.state):=by have:=l 10 (by decide);rw[g] at this;exact this
 have X:w.cell? ⟨bb,bo+i*13+11,none⟩=some (int i64 b.unt):=by have:=l 11 (by decide);rw[g] at this;exact this
 have Y:w.cell? ⟨bb,bo+i*13+12,none⟩=some (int i64 b.price):=by have:=l 12 (by decide);rw[g] at this;exact this
 have b5:Below w.heap.size w (w.alloc (.cells #[.slice u x.san z,.slice D x.ldn F,.slice (some ⟨bb,bo,none⟩) x.bkn s] 38)):=zk bZ _;have bO:=heap_alloc_new w (.cells #[.slice u x.san z,.slice D x.ldn F,.slice (some ⟨bb,bo,none⟩) x.bkn s] 38);have c0:∀ o,(w.alloc o).cell? ⟨bb,bo+i*13,none⟩=some (int i64 b.name):=fun o=>((zk (Below.refl _ w) o).cell (p:=⟨bb,bo+i*13,none⟩) a).trans g0
 have c1:∀ o,(w.alloc o).cell? ⟨bb,bo+i*13+1,none⟩=some (int i64 b.who):=fun o=>((zk (Below.refl _ w) o).cell (p:=⟨bb,bo+i*13+1,none⟩) a).trans g1
 have c2:∀ o,(w.alloc o).cell? ⟨bb,bo+i*13+2,none⟩=some (.string b.own):=fun o=>((zk (Below.refl _ w) o).cell (p:=⟨bb,bo+i*13+2,none⟩) a).trans g2
 have c3:∀ o,(w.alloc o).cell? ⟨bb,bo+i*13+3,none⟩=some (.slice E b.lgn G):=fun o=>((zk (Below.refl _ w) o).cell (p:=⟨bb,bo+i*13+3,none⟩) a).trans g3
 have c4:∀ o,(w.alloc o).cell? ⟨bb,bo+i*13+4,none⟩=some (int i64 b.pe):=fun o=>((zk (Below.refl _ w) o).cell (p:=⟨bb,bo+i*13+4,none⟩) a).trans g4
 have c5:∀ o,(w.alloc o).cell? ⟨bb,bo+i*13+5,none⟩=some (int i64 b.len):=fun o=>((zk (Below.refl _ w) o).cell (p:=⟨bb,bo+i*13+5,none⟩) a).trans g5
 have c6:∀ o,(w.alloc o).cell? ⟨bb,bo+i*13+6,none⟩=some (int i64 b.hei):=fun o=>((zk (Below.refl _ w) o).cell (p:=⟨bb,bo+i*13+6,none⟩) a).trans g6
 have c7:∀ o,(w.alloc o).cell? ⟨bb,bo+i*13+7,none⟩=some (int i64 b.cl):=fun o=>((zk (Below.refl _ w) o).cell (p:=⟨bb,bo+i*13+7,none⟩) a).trans g7
 have c8:∀ o,(w.alloc o).cell? ⟨bb,bo+i*13+8,none⟩=some (.bool b.all):=fun o=>((zk (Below.refl _ w) o).cell (p:=⟨bb,bo+i*13+8,none⟩) a).trans g8
 have c9:∀ o,(w.alloc o).cell? ⟨bb,bo+i*13+9,none⟩=some (int i64 b.be):=fun o=>((zk (Below.refl _ w) o).cell (p:=⟨bb,bo+i*13+9,none⟩) a).trans g9
 have d3:∀ o,(w.alloc o).cell? ⟨bb,bo+i*13+10,none⟩=some (int i64 b.state):=fun o=>((zk (Below.refl _ w) o).cell (p:=⟨bb,bo+i*13+10,none⟩) a).trans V
 have d4:∀ o,(w.alloc o).cell? ⟨bb,bo+i*13+11,none⟩=some (int i64 b.unt):=fun o=>((zk (Below.refl _ w) o).cell (p:=⟨bb,bo+i*13+11,none⟩) a).trans X
 have d5:∀ o,(w.alloc o).cell? ⟨bb,bo+i*13+12,none⟩=some (int i64 b.price):=fun o=>((zk (Below.refl _ w) o).cell (p:=⟨bb,bo+i*13+12,none⟩) a).trans Y
 clear l g Z b9 hb g0 g1 g2 g3 g4 g5 g6 g7 g8 g9 V X Y;have d8:IntKind.i64.wrap ((i:Int)+1)=(i:Int)+1:=by rw[IntKind.wrap_i64];omega
 have e9:(0:Int)<=(i:Int):=by omega
 have f0:(i:Int)<(x.bkn:Int):=by omega
 have c:Below w.heap.size w ((w.alloc (.cells #[.slice u x.san z,.slice D x.ldn F,.slice (some ⟨bb,bo,none⟩) x.bkn s] 38)).alloc (.cells #[int i64 b.name,int i64 b.who,.string b.own,.slice E b.lgn G,int i64 b.pe,int i64 b.len,int i64 b.hei,int i64 b.cl,.bool b.all,int i64 b.be,int i64 b.state,int i64 b.unt,int i64 b.price] 150)):=zk b5 _;have n:((w.alloc (.cells #[.slice u x.san z,.slice D x.ldn F,.slice (some ⟨bb,bo,none⟩) x.bkn s] 38)).alloc (.cells #[int i64 b.name,int i64 b.who,.string b.own,.slice E b.lgn G,int i64 b.pe,int i64 b.len,int i64 b.hei,int i64 b.cl,.bool b.all,int i64 b.be,int i64 b.state,int i64 b.unt,int i64 b.price] 150)).heap[w.heap.size]?=some (.cells #[.slice u x.san z,.slice D x.ldn F,.slice (some ⟨bb,bo,none⟩) x.bkn s] 38 (0,0)):=zd bO _;have m:((w.alloc (.cells #[.slice u x.san z,.slice D x.ldn F,.slice (some ⟨bb,bo,none⟩) x.bkn s] 38)).alloc (.cells #[int i64 b.name,int i64 b.who,.string b.own,.slice E b.lgn G,int i64 b.pe,int i64 b.len,int i64 b.hei,int i64 b.cl,.bool b.all,int i64 b.be,int i64 b.state,int i64 b.unt,int i64 b.price] 150)).heap[w.heap.size+1]?=some (.cells #[int i64 b.name,int i64 b.who,.string b.own,.slice E b.lgn G,int i64 b.pe,int i64 b.len,int i64 b.hei,int i64 b.cl,.bool b.all,int i64 b.be,int i64 b.state,int i64 b.unt,int i64 b.price] 150 (0,0)):=by simpa using heap_alloc_new (w.alloc _) _
 clear b5 bO
 by_cases n1:b.name=(i:Int)+1
 case neg =>
  have e1:(b.name != (i:Int)+1)=true:=by simpa using n1
  have B:Hid (¬ Zt x i):=fun h=>n1 (by rw[y.out];exact h.1)
  clear n1;go_enter Tryz.func85,Tryz.ntmps85;go_wp2;go_ret;exact⟨zl B.out,c⟩
 have e1:(b.name != (i:Int)+1)=false:=by simpa using n1
 have a4:=hI n1;clear n1;go_enter Tryz.func85,Tryz.ntmps85;go_wp2_with fail;generalize (w.alloc (.cells #[.slice u x.san z,.slice D x.ldn F,.slice (some ⟨bb,bo,none⟩) x.bkn s] 38)).alloc (.cells #[int i64 b.name,int i64 b.who,.string b.own,.slice E b.lgn G,int i64 b.pe,int i64 b.len,int i64 b.hei,int i64 b.cl,.bool b.all,int i64 b.be,int i64 b.state,int i64 b.unt,int i64 b.price] 150)=W at c n m ⊢;clear c0 c1 c2 c3 c4 c5 c6 c7 c8 c9 d3 d4 d5 e1 d8;obtain⟨y0,y1,y2,y3,y4,y5,y6,y7,y8,y9,I,J,N⟩:=zeX m;have z0:=za n 0 _ rfl;have z2:=za n 2 _ rfl;refine(Qz _ _).mono ?_;obtain⟨t0,a0⟩:∃ t,t=decide (In b.who 1 9999):=⟨_,rfl⟩;rw[← a0];have P:Hid (t0=true↔In b.who 1 9999):=by show t0=true↔In b.who 1 9999;rw[a0,decide_eq_true_eq]
 clear a0;rintro e v ⟨rfl,H⟩;have H:=H.symm;subst H
 cases t0 with
 | false =>
  have B:Hid (¬ Zt x i):=fun h=>by have h:=(show Zt x i from h);unfold Zt at h;rw[← y.out] at h;have:=P.out.2 h.2.1;cases this
  go_wp2;go_ret;exact⟨zl B.out,c⟩
 | true =>
 have a5:Hid (In b.who 1 9999):=P.out.1 rfl;clear P;go_wp2_with fail;refine(qS _ _ (by have:=b3.out.1;omega)).mono ?_
 obtain⟨t1,a1⟩:∃ t,t=decide (Zg b.own):=⟨_,rfl⟩;rw[← a1];have Q:Hid (t1=true↔Zg b.own):=by show t1=true↔Zg b.own;rw[a1,decide_eq_true_eq]
 clear a1;rintro e v ⟨rfl,H⟩;have H:=H.symm;subst H
 cases t1 with
 | false =>
  have B:Hid (¬ Zt x i):=fun h=>by have h:=(show Zt x i from h);unfold Zt at h;rw[← y.out] at h;have:=Q.out.2 h.2.2.1;cases this
  go_wp2;go_ret;exact⟨zl B.out,c⟩
 | true =>
 have a6:Hid (Zg b.own):=Q.out.1 rfl;clear Q;go_wp2_with fail;refine(zkO u E x.san b.lgn z G x.sa b.lg _ b4.out.1.1 b3.out.2 (d1.out.below c) (d0.out.below c)).mono ?_;rintro e v2 ⟨⟨t2,rfl,b7⟩,A⟩;have R:=hI b7;clear b7;have L:=zb n A;have K:=zb m A;have M:=ze c A;clear y0 y1 y2 y3 y4 y5 y6 y7 y8 y9 I J N z0 z2 c n m A;have c:=M;have n:=L;have m:=K;clear M L K;obtain⟨y0,y1,y2,y3,y4,y5,y6,y7,y8,y9,I,J,N⟩:=zeX m;have z0:=za n 0 _ rfl;have z2:=za n 2 _ rfl
 cases t2 with
 | false =>
  have B:Hid (¬ Zt x i):=fun h=>by have h:=(show Zt x i from h);unfold Zt at h;rw[← y.out] at h;have:=R.out.2 h.2.2.2.1;cases this
  go_wp2;go_ret;exact⟨zl B.out,c⟩
 | true =>
 have a7:Hid (zad x.san x.sa b.lgn b.lg):=R.out.1 rfl;clear R;go_wp2_with fail;refine(zaz b.pe b.len b.hei b.cl b.all b.be _).mono ?_;rintro e v3 ⟨⟨t3,rfl,b8⟩,A⟩;have S:=hI b8;clear b8;have L:=zb n A;have K:=zb m A;have M:=ze c A;clear y0 y1 y2 y3 y4 y5 y6 y7 y8 y9 I J N z0 z2 c n m A;have c:=M;have n:=L;have m:=K;clear M L K;obtain⟨y0,y1,y2,y3,y4,y5,y6,y7,y8,y9,I,J,N⟩:=zeX m;have z0:=za n 0 _ rfl;have z2:=za n 2 _ rfl
 cases t3 with
 | false =>
  have B:Hid (¬ Zt x i):=fun h=>by have h:=(show Zt x i from h);unfold Zt at h;rw[← y.out] at h;have:=S.out.2 h.2.2.2.2.1;cases this
  go_wp2;go_ret;exact⟨zl B.out,c⟩
 | true =>
 have a8:Hid (qI b.p):=S.out.1 rfl;clear S;go_wp2_with fail;refine(zt _ _ _ _).mono ?_;obtain⟨t4,a2⟩:∃ t,t=decide (In b.state 1 4):=⟨_,rfl⟩;rw[← a2];have T:Hid (t4=true↔In b.state 1 4):=by show t4=true↔In b.state 1 4;rw[a2,decide_eq_true_eq]
 clear a2;rintro e v ⟨rfl,H⟩;have H:=H.symm;subst H
 cases t4 with
 | false =>
  have B:Hid (¬ Zt x i):=fun h=>by have h:=(show Zt x i from h);unfold Zt at h;rw[← y.out] at h;have:=T.out.2 h.2.2.2.2.2.1;cases this
  go_wp2;go_ret;exact⟨zl B.out,c⟩
 | true =>
 have a9:Hid (In b.state 1 4):=T.out.1 rfl;clear T;go_wp2_with fail;refine(zt _ _ _ _).mono ?_;obtain⟨t5,a3⟩:∃ t,t=decide (In b.price 0 1000000):=⟨_,rfl⟩;rw[← a3];have U:Hid (t5=true↔In b.price 0 1000000):=by show t5=true↔In b.price 0 1000000;rw[a3,decide_eq_true_eq]
 clear a3;rintro e v ⟨rfl,H⟩;have H:=H.symm;subst H
 cases t5 with
 | false =>
  have B:Hid (¬ Zt x i):=fun h=>by have h:=(show Zt x i from h);unfold Zt at h;rw[← y.out] at h;have:=U.out.2 h.2.2.2.2.2.2.1;cases this
  go_wp2;go_ret;exact⟨zl B.out,c⟩
 | true =>
 have b1:Hid (In b.price 0 1000000):=U.out.1 rfl;clear U;have e5:(x.bkn:Int)<=(s:Int):=by omega
 have f1:(i:Int)<=(s:Int):=by omega
 go_wp2;clear y0 y1 y2 y3 y4 y5 y6 y7 y8 y9 I J N z0 z2;go_loopw [7,61] (fun _ q wr=>∃ k:Nat,k<=i/\q=int i64 k/\(∀ j,j<k->(x.bk j).who≠b.who)/\Below v3.heap.size v3 wr) (fun _ q _=>i - (intOf q).toNat)
 case atStart=>exact⟨0,Nat.zero_le _,rfl,fun j hj=>by omega,bZ⟩
 case round =>
  obtain⟨k,hk,rfl,O,r⟩:=hrel;have HA:=hI O;clear O
  by_cases hlt:k<i
  ·obtain⟨b2,o2,e2,l⟩:=HC.out k (by omega)
   simp only[Option.some.injEq,Addr.mk.injEq,and_true] at e2;obtain⟨rfl,rfl⟩:=e2;obtain⟨d2,d6,g,_,_⟩:=HI.out k (by omega)
   obtain⟨d,hd⟩:∃ d,d=x.bk k:=⟨_,rfl⟩;rw[← hd] at g;have HD:=hI hd;clear hd;have f:=ze c r;have g0:wr.cell? ⟨bb,bo+k*13,none⟩=some (int i64 d.name):=(f.cell (p:=⟨bb,bo+k*13,none⟩) a).trans (by have:=l 0 (by decide);rw[g] at this;exact this)
   have g1:wr.cell? ⟨bb,bo+k*13+1,none⟩=some (int i64 d.who):=(f.cell (p:=⟨bb,bo+k*13+1,none⟩) a).trans (by have:=l 1 (by decide);rw[g] at this;exact this)
   have g2:wr.cell? ⟨bb,bo+k*13+2,none⟩=some (.string d.own):=(f.cell (p:=⟨bb,bo+k*13+2,none⟩) a).trans (by have:=l 2 (by decide);rw[g] at this;exact this)
   have g3:wr.cell? ⟨bb,bo+k*13+3,none⟩=some (.slice d2 d.lgn d6):=(f.cell (p:=⟨bb,bo+k*13+3,none⟩) a).trans (by have:=l 3 (by decide);rw[g] at this;exact this)
   have g4:wr.cell? ⟨bb,bo+k*13+4,none⟩=some (int i64 d.pe):=(f.cell (p:=⟨bb,bo+k*13+4,none⟩) a).trans (by have:=l 4 (by decide);rw[g] at this;exact this)
   have g5:wr.cell? ⟨bb,bo+k*13+5,none⟩=some (int i64 d.len):=(f.cell (p:=⟨bb,bo+k*13+5,none⟩) a).trans (by have:=l 5 (by decide);rw[g] at this;exact this)
   have g6:wr.cell? ⟨bb,bo+k*13+6,none⟩=some (int i64 d.hei):=(f.cell (p:=⟨bb,bo+k*13+6,none⟩) a).trans (by have:=l 6 (by decide);rw[g] at this;exact this)
   have g7:wr.cell? ⟨bb,bo+k*13+7,none⟩=some (int i64 d.cl):=(f.cell (p:=⟨bb,bo+k*13+7,none⟩) a).trans (by have:=l 7 (by decide);rw[g] at this;exact this)
   have g8:wr.cell? ⟨bb,bo+k*13+8,none⟩=some (.bool d.all):=(f.cell (p:=⟨bb,bo+k*13+8,none⟩) a).trans (by have:=l 8 (by decide);rw[g] at this;exact this)
   have g9:wr.cell? ⟨bb,bo+k*13+9,none⟩=some (int i64 d.be):=(f.cell (p:=⟨bb,bo+k*13+9,none⟩) a).trans (by have:=l 9 (by decide);rw[g] at this;exact this)
   have V:wr.cell? ⟨bb,bo+k*13+10,none⟩=some (int i64 d.state):=(f.cell (p:=⟨bb,bo+k*13+10,none⟩) a).trans (by have:=l 10 (by decide);rw[g] at this;exact this)
   have X:wr.cell? ⟨bb,bo+k*13+11,none⟩=some (int i64 d.unt):=(f.cell (p:=⟨bb,bo+k*13+11,none⟩) a).trans (by have:=l 11 (by decide);rw[g] at this;exact this)
   have Y:wr.cell? ⟨bb,bo+k*13+12,none⟩=some (int i64 d.price):=(f.cell (p:=⟨bb,bo+k*13+12,none⟩) a).trans (by have:=l 12 (by decide);rw[g] at this;exact this)
   have y1:∀ o,(wr.alloc o).cell? ⟨w.heap.size+1,1,none⟩=some (int i64 b.who):=fun o=>za (zd (zb m r) o) 1 _ rfl
   clear l g f
   by_cases e3:d.who=b.who
   ·have d7:(d.who == b.who)=true:=by simpa using e3
    have B:Hid (¬ Zt x i):=fun h=>h.2.2.2.2.2.2.2.1 k hlt (by rw[← HD.out,← y.out];exact e3)
    clear e3;go_wp2;go_ret;exact⟨zl B.out,zk (ze c r) _⟩
   ·have d7:(d.who == b.who)=false:=by simpa using e3
    have B:Hid ((x.bk k).who≠b.who):=by rw[← HD.out];exact e3
    clear e3;go_wp2;go_roundw
    case rel=>exact⟨k+1,by omega,by go_num,fun j hj=>by
     by_cases e:j=k
     ·subst e;exact B.out
     ·exact HA.out j (by omega),zk r _⟩
    case measure=>simp[intOf];omega
  ·obtain rfl:k=i:=by omega
   have f:=ze c r;have I:=za (zb m r) 10 _ rfl;have J:=za (zb m r) 11 _ rfl;have HF:Hid (Zt x k↔zaA b):=by
    show Zt x k↔zaA b
    unfold Zt;rw[← y.out];exact⟨fun h=>h.2.2.2.2.2.2.2.2,fun h=>⟨a4.out,a5.out,a6.out,a7.out,a8.out,a9.out,b1.out,HA.out,h⟩⟩
   clear a4 a5 a6 a7 a8 a9 b1 HA r
   by_cases s1:b.state=1
   ·have d9:(b.state == 1)=true:=by simpa using s1
    have HU:Hid (zaA b↔In b.unt 0 10000):=by show zaA b↔In b.unt 0 10000;unfold zaA;rw[if_pos (.inl s1)]
    clear s1;go_wp2_with (first|(go_at_call 148;refine sC (zt _ _ _ _) ?_))
    go_ret;exact⟨⟨_,rfl,by rw[decide_eq_true_eq,HF.out,HU.out]⟩,f⟩
   ·have d9:(b.state == 1)=false:=by simpa using s1
    by_cases s4:b.state=4
    ·have e4:(b.state == 4)=true:=by simpa using s4
     have HU:Hid (zaA b↔In b.unt 0 10000):=by show zaA b↔In b.unt 0 10000;unfold zaA;rw[if_pos (.inr s4)]
     clear s1 s4;go_wp2_with (first|(go_at_call 148;refine sC (zt _ _ _ _) ?_))
     go_ret;exact⟨⟨_,rfl,by rw[decide_eq_true_eq,HF.out,HU.out]⟩,f⟩
    ·have e4:(b.state == 4)=false:=by simpa using s4
     have HU:Hid (zaA b↔b.unt=0):=by show zaA b↔b.unt=0;unfold zaA;rw[if_neg (fun h=>by rcases h with h|h;exact s1 h;exact s4 h)]
     clear s1 s4;go_wp2;go_ret;exact⟨⟨_,rfl,by rw[beq_iff_eq,HF.out,HU.out]⟩,f⟩
section
open Go.RowKit
theorem zmo (x:Off)(a9 d9 d8:Option Addr)(e0 b2 b1:Nat)(w:World)(hs:Off.Short x 1048576)(j4:qB w a9 x.san x.sa)(N:ZG w d9 x.ldn x.ld)(j3:qO w d8 x.bkn x.bk)(l4:x.bkn<=b1) :
  Calls Tryz.prog 42 #[.agg #[.slice a9 x.san e0,.slice d9 x.ldn b2,.slice d8 x.bkn b1]] w fun e w'=>qX (Zk x) e/\Below w.heap.size w w':=by
 have g2:=hI j4;have i9:=hI N;have i6:=hI j3;have a3:=hI hs;have n1:x.san<=1048576:=hs.1.1;have n2:x.ldn<=1048576:=hs.2.1.1;have n3:x.bkn<=1048576:=hs.2.2.1;clear j4 N j3 hs;have g4:Below w.heap.size w (w.alloc (.cells #[.slice a9 x.san e0,.slice d9 x.ldn b2,.slice d8 x.bkn b1] 38)):=zk bZ _;have bO:=heap_alloc_new w (.cells #[.slice a9 x.san e0,.slice d9 x.ldn b2,.slice d8 x.bkn b1] 38);go_enter Tryz.func42,Tryz.ntmps42;go_wp2_with fail;generalize w.alloc (.cells #[.slice a9 x.san e0,.slice d9 x.ldn b2,.slice d8 x.bkn b1] 38)=V0 at g4 bO ⊢;refine(zma a9 x.san e0 x.sa _ n1 a3.out.1.2 (g2.out.below g4)).mono ?_;rintro e V ⟨⟨t0,rfl,j5⟩,h7⟩;have h6:=hI j5;have b0:=zb bO h7;have y:=ze g4 h7;clear j5 g4 bO h7 V0;obtain⟨z0,z1,z2⟩:=ce3 b0
 cases t0 with
 | false =>
  have D:Hid (¬ Zk x):=fun h=>by have:=h6.out.2 h.1;cases this
  go_wp2;go_ret;exact⟨zl D.out,y⟩
 | true =>
 have j1:Hid (QJ x.san x.sa):=h6.out.1 rfl;clear h6
 by_cases m1:x.ldn=x.san
 case neg =>
  have e1:((x.ldn:Int) != (x.san:Int))=true:=by simp;omega
  have D:Hid (¬ Zk x):=fun h=>m1 h.2.1
  clear m1;go_wp2;go_ret;exact⟨zl D.out,y⟩
 have e1:((x.ldn:Int) != (x.san:Int))=false:=by simp;omega
 by_cases m2:x.bkn<=30
 case neg =>
  have e2:decide ((30:Int)<(x.bkn:Int))=true:=by simp;omega
  have D:Hid (¬ Zk x):=fun h=>m2 h.2.2.1
  clear m1 m2;go_wp2;go_ret;exact⟨zl D.out,y⟩
 have e2:decide ((30:Int)<(x.bkn:Int))=false:=by simp;omega
 have f:=hI m1;have R:=hI m2;clear m1;go_wp2;clear e1 e2 z0 z1 z2;go_loopw [3,4,5,37] (fun _ _ _ q wr=>∃ k:Nat,k<=x.san/\q=int i64 k/\(∀ j,j<k->qm (x.sa j) (x.ld j))/\Below V.heap.size V wr) (fun _ _ _ q _=>x.san - (intOf q).toNat)
 case atStart=>exact⟨0,Nat.zero_le _,rfl,fun j hj=>by omega,bZ⟩
 case round =>
  obtain⟨k,hk,rfl,v,c⟩:=hrel;have HA:=hI v;clear v;have a:=ze y c
  by_cases hlt:k<x.san
  ·obtain⟨A,B,la,lc,ca,cc,rfl,f0,f1,f2,f3,f4,f5,f6,f7,b6,b5,g0,f9⟩:=g2.out k hlt
   obtain⟨s,T⟩:∃ s,s=x.sa k:=⟨_,rfl⟩;rw[← T] at f0 f1 f2 f3 f4 f5 f6 f7 b6 b5 g0 f9;have O:=hI T;have h4:Hid (ShortS s 1048576):=by rw[T];exact a3.out.1.2 k hlt
   have z:=World.block_lt_of_cell? w _ f0;have c0:wr.cell? ⟨A,B+k*8,none⟩=some (int i64 s.id):=(a.cell (p:=⟨A,B+k*8,none⟩) z).trans f0;have c1:wr.cell? ⟨A,B+k*8+1,none⟩=some (.string s.fr):=(a.cell (p:=⟨A,B+k*8+1,none⟩) z).trans f1;have c2:wr.cell? ⟨A,B+k*8+2,none⟩=some (.string s.dst):=(a.cell (p:=⟨A,B+k*8+2,none⟩) z).trans f2;have c3:wr.cell? ⟨A,B+k*8+3,none⟩=some (int i64 s.dep):=(a.cell (p:=⟨A,B+k*8+3,none⟩) z).trans f3;have c4:wr.cell? ⟨A,B+k*8+4,none⟩=some (int i64 s.arr):=(a.cell (p:=⟨A,B+k*8+4,none⟩) z).trans f4;have c5:wr.cell? ⟨A,B+k*8+5,none⟩=some (.slice la s.la.n lc):=(a.cell (p:=⟨A,B+k*8+5,none⟩) z).trans f5;have c6:wr.cell? ⟨A,B+k*8+6,none⟩=some (.slice ca s.ca.n cc):=(a.cell (p:=⟨A,B+k*8+6,none⟩) z).trans f6;have c7:wr.cell? ⟨A,B+k*8+7,none⟩=some (int i64 s.most):=(a.cell (p:=⟨A,B+k*8+7,none⟩) z).trans f7;obtain⟨C,hC,hI⟩:=i9.out;obtain⟨lb,lo,rfl,K⟩:=hC k (by have:=f.out;omega)
   obtain⟨l,N⟩:∃ l,l=x.ld k:=⟨_,rfl⟩;obtain⟨G,u,E,n,F,r,J,b9,d6,b7,d4,b8,d5⟩:=hI k (by have:=f.out;omega)
   rw[← N] at J b9 d6 b7 d4 b8 d5;have U:=hI N;have a2:Hid (zY.Short l 1048576):=by rw[N];exact a3.out.2.1.2 k (by have:=f.out;omega)
   have d3:lb<w.heap.size:=World.block_lt_of_cell? w _ (K 0 (by decide))
   have d0:∀ o,(wr.alloc o).cell? ⟨lb,lo+k*3,none⟩=some (.slice G l.stn u):=fun o=>((a.alloc a.size o).cell (p:=⟨lb,lo+k*3,none⟩) d3).trans (by have:=K 0 (by decide);rw[J] at this;exact this)
   have d1:∀ o,(wr.alloc o).cell? ⟨lb,lo+k*3+1,none⟩=some (.slice E l.ron n):=fun o=>((a.alloc a.size o).cell (p:=⟨lb,lo+k*3+1,none⟩) d3).trans (by have:=K 1 (by decide);rw[J] at this;exact this)
   have d2:∀ o,(wr.alloc o).cell? ⟨lb,lo+k*3+2,none⟩=some (.slice F l.sen r):=fun o=>((a.alloc a.size o).cell (p:=⟨lb,lo+k*3+2,none⟩) d3).trans (by have:=K 2 (by decide);rw[J] at this;exact this)
   have i8:=hI b6;have g8:=hI b5;have h5:=hI b9;have g9:=hI b7;have h0:=hI b8;have q1:l.stn<=u:=d6.1;have q2:l.ron<=n:=d4.1;have q3:l.sen<=r:=d5.1;clear hC hI K J T N f0 f1 f2 f3 f4 f5 f6 f7 b6 b5 g0 f9 b9 d6 b7 d4 b8 d5;have l5:(0:Int)<=(k:Int):=by omega
   have l6:(k:Int)<(x.ldn:Int):=by have:=f.out;omega
   have z1:∀ o,(wr.alloc o).cell? ⟨w.heap.size,1,none⟩=some (.slice (some ⟨lb,lo,none⟩) x.ldn b2):=fun o=>za (zd (zb b0 c) o) 1 _ rfl
   go_wp2_with fail;have d:Below V.heap.size V ((wr.alloc (.cells #[int i64 s.id,.string s.fr,.string s.dst,int i64 s.dep,int i64 s.arr,.slice la s.la.n lc,.slice ca s.ca.n cc,int i64 s.most] 140)).alloc (.cells #[.slice G l.stn u,.slice E l.ron n,.slice F l.sen r] 145)):=(c.alloc c.size _).alloc (by have:=c.size;simp;omega) _
   have Q:((wr.alloc (.cells #[int i64 s.id,.string s.fr,.string s.dst,int i64 s.dep,int i64 s.arr,.slice la s.la.n lc,.slice ca s.ca.n cc,int i64 s.most] 140)).alloc (.cells #[.slice G l.stn u,.slice E l.ron n,.slice F l.sen r] 145)).heap[wr.heap.size]?=some (.cells #[int i64 s.id,.string s.fr,.string s.dst,int i64 s.dep,int i64 s.arr,.slice la s.la.n lc,.slice ca s.ca.n cc,int i64 s.most] 140 (0,0)):=zd (heap_alloc_new wr _) _;have P:((wr.alloc (.cells #[int i64 s.id,.string s.fr,.string s.dst,int i64 s.dep,int i64 s.arr,.slice la s.la.n lc,.slice ca s.ca.n cc,int i64 s.most] 140)).alloc (.cells #[.slice G l.stn u,.slice E l.ron n,.slice F l.sen r] 145)).heap[wr.heap.size+1]?=some (.cells #[.slice G l.stn u,.slice E l.ron n,.slice F l.sen r] 145 (0,0)):=by simpa using heap_alloc_new (wr.alloc _) _
   generalize ((wr.alloc (.cells #[int i64 s.id,.string s.fr,.string s.dst,int i64 s.dep,int i64 s.arr,.slice la s.la.n lc,.slice ca s.ca.n cc,int i64 s.most] 140)).alloc (.cells #[.slice G l.stn u,.slice E l.ron n,.slice F l.sen r] 145))=X at d Q P ⊢;clear c0 c1 c2 c3 c4 c5 c6 c7 d0 d1 d2 z1 a;have a:=ze y d;have s6:=za Q 6 _ rfl;have s7:=za Q 7 _ rfl;have l1:=za P 1 _ rfl;have l2:=za P 2 _ rfl;refine(zkv la G s.la.n lc l.stn u s.la l.st _ rfl h4.out.2.2.1 a2.out.1 q1 (i8.out.below a) (h5.out.below a)).mono ?_;rintro e X1 ⟨⟨t1,rfl,e4⟩,g⟩;have a4:=hI e4;clear e4;have a0:=zb Q g;have Z:=zb P g;have M:=ze d g;clear s6 s7 l1 l2 Q P d a g;have Q:=a0;have P:=Z;have d:=M;clear a0 Z M;have a:=ze y d;have s6:=za Q 6 _ rfl;have s7:=za Q 7 _ rfl;have l1:=za P 1 _ rfl;have l2:=za P 2 _ rfl
   cases t1 with
   | false =>
    have D:Hid (¬ Zk x):=fun h=>by have h:=h.2.2.2.1 k hlt;rw[← O.out,← U.out] at h;have:=a4.out.2 h.1;cases this
    go_wp2;go_ret;exact⟨zl D.out,a⟩
   | true =>
   have k4:Hid (DeckS s.la l.stn l.st):=a4.out.1 rfl;clear a4;go_wp2_with fail;refine(ziL ca E s.ca.n cc l.ron n s.ca l.ro _ rfl h4.out.2.2.2 a2.out.2.1 q2 (g8.out.below a) (g9.out.below a)).mono ?_;rintro e X2 ⟨⟨t2,rfl,e9⟩,g⟩;have a5:=hI e9;clear e9;have a0:=zb Q g;have Z:=zb P g;have M:=ze d g;clear s6 s7 l1 l2 Q P d a g;have Q:=a0;have P:=Z;have d:=M;clear a0 Z M;have a:=ze y d;have s6:=za Q 6 _ rfl;have s7:=za Q 7 _ rfl;have l1:=za P 1 _ rfl;have l2:=za P 2 _ rfl
   cases t2 with
   | false =>
    have D:Hid (¬ Zk x):=fun h=>by have h:=h.2.2.2.1 k hlt;rw[← O.out,← U.out] at h;have:=a5.out.2 h.2.1;cases this
    go_wp2;go_ret;exact⟨zl D.out,a⟩
   | true =>
   have k5:Hid (Qr s.ca l.ron l.ro):=a5.out.1 rfl;clear a5;go_wp2_with fail;refine(zji s.most F l.sen r l.se _ (by have:=a2.out.2.2;omega) q3 (h0.out.below a)).mono ?_
   rintro e X3 ⟨⟨t3,rfl,f8⟩,g⟩;have a6:=hI f8;clear f8;have a0:=zb Q g;have Z:=zb P g;have M:=ze d g;clear s6 s7 l1 l2 Q P d a g;have Q:=a0;have P:=Z;have d:=M;clear a0 Z M;have a:=ze y d;have s6:=za Q 6 _ rfl;have s7:=za Q 7 _ rfl;have l1:=za P 1 _ rfl;have l2:=za P 2 _ rfl
   cases t3 with
   | false =>
    have D:Hid (¬ Zk x):=fun h=>by have h:=h.2.2.2.1 k hlt;rw[← O.out,← U.out] at h;have:=a6.out.2 h.2.2;cases this
    go_wp2;go_ret;exact⟨zl D.out,a⟩
   | true =>
   have k6:Hid (Qx s.most l.sen l.se):=a6.out.1 rfl;clear a6;have e5:Hid (qm (x.sa k) (x.ld k)):=by show qm (x.sa k) (x.ld k);rw[← O.out,← U.out];exact⟨k4.out,k5.out,k6.out⟩
   clear s6 s7 l1 l2;go_wp2;go_roundw
   case rel=>exact⟨k+1,by omega,by go_num,fun j hj=>by
    by_cases e:j=k
    ·subst e;exact e5.out
    ·exact HA.out j (by omega),d⟩
   case measure=>simp[intOf];omega
  ·obtain rfl:k=x.san:=by omega
   have i7:=hI HA.out;have i5:=hI c;have z2:=za (zb b0 c) 2 _ rfl;clear HA c a hk hlt;go_wp2;clear z2;go_loopw [6,73] (fun _ q wr=>∃ k:Nat,k<=x.bkn/\q=int i64 k/\(∀ j,j<k->Zt x j)/\Below V.heap.size V wr) (fun _ q _=>x.bkn - (intOf q).toNat)
   case atStart=>exact⟨0,Nat.zero_le _,rfl,fun j hj=>by omega,i5.out⟩
   case round =>
    obtain⟨k,hk,rfl,v,c⟩:=hrel;have HA:=hI v;clear v;have a:=ze y c
    by_cases hlt:k<x.bkn
    ·obtain⟨C,hC,hI⟩:=i6.out
     obtain⟨bb,bo,rfl,_⟩:=hC k hlt;have k0:=hI (hC.below a);have k1:Hid (∀ k,k<x.bkn->ql.Is wr (C k) (x.bk k)):=fun k hk=>(hI k hk).below a
     obtain⟨z0,z1,z2⟩:=ce3 (zb b0 c);clear hC hI;go_wp2_with fail;refine(zjo x a9 d9 bb bo e0 b2 b1 k C _ hlt a3.out (g2.out.below a) k0.out k1.out l4).mono ?_;rintro e X ⟨⟨t,rfl,ht⟩,d⟩;have HT:=hI ht;clear ht z0 z1 z2
     cases t with
     | false =>
      have D:Hid (¬ Zk x):=fun h=>by have:=HT.out.2 (h.2.2.2.2.1 k hlt);cases this
      go_wp2;go_ret;exact⟨zl D.out,ze a d⟩
     | true =>
      have HP:Hid (Zt x k):=HT.out.1 rfl;clear HT;go_wp2;go_roundw
      case rel=>exact⟨k+1,by omega,by go_num,fun j hj=>by
       by_cases e:j=k
       ·subst e;exact HP.out
       ·exact HA.out j (by omega),ze c d⟩
      case measure=>simp[intOf];omega
    ·obtain rfl:k=x.bkn:=by omega
     have k2:=hI HA.out;have j7:=hI c;have z0:=za (zb b0 c) 0 _ rfl;clear HA c a hk hlt i5;go_wp2;clear z0;go_loopw [7,8,9,10,11,12,14,84,95,96,97] (fun _ _ _ _ _ _ _ q _ _ _ wr=>∃ k:Nat,k<=x.san/\q=int i64 k/\(∀ j,j<k->zaQ x j)/\Below V.heap.size V wr) (fun _ _ _ _ _ _ _ q _ _ _ _=>x.san - (intOf q).toNat)
     case atStart=>exact⟨0,Nat.zero_le _,rfl,fun j hj=>by omega,j7.out⟩
     case round =>
      obtain⟨k,hk,rfl,v,c⟩:=hrel;have HA:=hI v;clear v;have a:=ze y c
      by_cases hlt:k<x.san
      ·obtain⟨A,B,la,lc,ca,cc,rfl,f0,f1,f2,f3,f4,f5,f6,f7,b6,b5,g0,f9⟩:=g2.out k hlt
       obtain⟨s,T⟩:∃ s,s=x.sa k:=⟨_,rfl⟩;rw[← T] at f0 f1 f2 f3 f4 f5 f6 f7 b6 b5 g0 f9;have O:=hI T;have h4:Hid (ShortS s 1048576):=by rw[T];exact a3.out.1.2 k hlt
       have z:=World.block_lt_of_cell? w _ f0;have c0:wr.cell? ⟨A,B+k*8,none⟩=some (int i64 s.id):=(a.cell (p:=⟨A,B+k*8,none⟩) z).trans f0;have c1:wr.cell? ⟨A,B+k*8+1,none⟩=some (.string s.fr):=(a.cell (p:=⟨A,B+k*8+1,none⟩) z).trans f1;have c2:wr.cell? ⟨A,B+k*8+2,none⟩=some (.string s.dst):=(a.cell (p:=⟨A,B+k*8+2,none⟩) z).trans f2;have c3:wr.cell? ⟨A,B+k*8+3,none⟩=some (int i64 s.dep):=(a.cell (p:=⟨A,B+k*8+3,none⟩) z).trans f3;have c4:wr.cell? ⟨A,B+k*8+4,none⟩=some (int i64 s.arr):=(a.cell (p:=⟨A,B+k*8+4,none⟩) z).trans f4;have c5:wr.cell? ⟨A,B+k*8+5,none⟩=some (.slice la s.la.n lc):=(a.cell (p:=⟨A,B+k*8+5,none⟩) z).trans f5;have c6:wr.cell? ⟨A,B+k*8+6,none⟩=some (.slice ca s.ca.n cc):=(a.cell (p:=⟨A,B+k*8+6,none⟩) z).trans f6;have c7:wr.cell? ⟨A,B+k*8+7,none⟩=some (int i64 s.most):=(a.cell (p:=⟨A,B+k*8+7,none⟩) z).trans f7;obtain⟨C,hC,hI⟩:=i9.out;obtain⟨lb,lo,rfl,K⟩:=hC k (by have:=f.out;omega)
       obtain⟨l,N⟩:∃ l,l=x.ld k:=⟨_,rfl⟩;obtain⟨G,u,E,n,F,r,J,b9,d6,b7,d4,b8,d5⟩:=hI k (by have:=f.out;omega)
       rw[← N] at J b9 d6 b7 d4 b8 d5;have U:=hI N;have a2:Hid (zY.Short l 1048576):=by rw[N];exact a3.out.2.1.2 k (by have:=f.out;omega)
       have d3:lb<w.heap.size:=World.block_lt_of_cell? w _ (K 0 (by decide))
       have d0:∀ o,(wr.alloc o).cell? ⟨lb,lo+k*3,none⟩=some (.slice G l.stn u):=fun o=>((a.alloc a.size o).cell (p:=⟨lb,lo+k*3,none⟩) d3).trans (by have:=K 0 (by decide);rw[J] at this;exact this)
       have d1:∀ o,(wr.alloc o).cell? ⟨lb,lo+k*3+1,none⟩=some (.slice E l.ron n):=fun o=>((a.alloc a.size o).cell (p:=⟨lb,lo+k*3+1,none⟩) d3).trans (by have:=K 1 (by decide);rw[J] at this;exact this)
       have d2:∀ o,(wr.alloc o).cell? ⟨lb,lo+k*3+2,none⟩=some (.slice F l.sen r):=fun o=>((a.alloc a.size o).cell (p:=⟨lb,lo+k*3+2,none⟩) d3).trans (by have:=K 2 (by decide);rw[J] at this;exact this)
       have i8:=hI b6;have g8:=hI b5;have h5:=hI b9;have g9:=hI b7;have h0:=hI b8;have q1:l.stn<=u:=d6.1;have q2:l.ron<=n:=d4.1;have q3:l.sen<=r:=d5.1;clear hC hI K J T N f0 f1 f2 f3 f4 f5 f6 f7 b6 b5 g0 f9 b9 d6 b7 d4 b8 d5;have e5:=i7.out k hlt;rw[← O.out,← U.out] at e5;have j9:Hid (∀ j,j<l.ron->0<=(l.ro j).cab/\(l.ro j).cab<s.ca.n):=fun j hj=>zki e5.2.1 j hj
       clear e5;have l5:(0:Int)<=(k:Int):=by omega
       have l6:(k:Int)<(x.ldn:Int):=by have:=f.out;omega
       have z1:∀ o,(wr.alloc o).cell? ⟨w.heap.size,1,none⟩=some (.slice (some ⟨lb,lo,none⟩) x.ldn b2):=fun o=>za (zd (zb b0 c) o) 1 _ rfl
       have z2:∀ o p,((wr.alloc o).alloc p).cell? ⟨w.heap.size,2,none⟩=some (.slice d8 x.bkn b1):=fun o p=>za (zd (zd (zb b0 c) o) p) 2 _ rfl
       go_wp2;have d:Below V.heap.size V ((wr.alloc (.cells #[int i64 s.id,.string s.fr,.string s.dst,int i64 s.dep,int i64 s.arr,.slice la s.la.n lc,.slice ca s.ca.n cc,int i64 s.most] 140)).alloc (.cells #[.slice G l.stn u,.slice E l.ron n,.slice F l.sen r] 145)):=(c.alloc c.size _).alloc (by have:=c.size;simp;omega) _
       have Q:((wr.alloc (.cells #[int i64 s.id,.string s.fr,.string s.dst,int i64 s.dep,int i64 s.arr,.slice la s.la.n lc,.slice ca s.ca.n cc,int i64 s.most] 140)).alloc (.cells #[.slice G l.stn u,.slice E l.ron n,.slice F l.sen r] 145)).heap[wr.heap.size]?=some (.cells #[int i64 s.id,.string s.fr,.string s.dst,int i64 s.dep,int i64 s.arr,.slice la s.la.n lc,.slice ca s.ca.n cc,int i64 s.most] 140 (0,0)):=zd (heap_alloc_new wr _) _;have P:((wr.alloc (.cells #[int i64 s.id,.string s.fr,.string s.dst,int i64 s.dep,int i64 s.arr,.slice la s.la.n lc,.slice ca s.ca.n cc,int i64 s.most] 140)).alloc (.cells #[.slice G l.stn u,.slice E l.ron n,.slice F l.sen r] 145)).heap[wr.heap.size+1]?=some (.cells #[.slice G l.stn u,.slice E l.ron n,.slice F l.sen r] 145 (0,0)):=by simpa using heap_alloc_new (wr.alloc _) _
       generalize ((wr.alloc (.cells #[int i64 s.id,.string s.fr,.string s.dst,int i64 s.dep,int i64 s.arr,.slice la s.la.n lc,.slice ca s.ca.n cc,int i64 s.most] 140)).alloc (.cells #[.slice G l.stn u,.slice E l.ron n,.slice F l.sen r] 145))=X at d Q P ⊢;generalize wr.heap.size=n7 at Q P ⊢;clear c0 c1 c2 c3 c4 c5 c6 c7 d0 d1 d2 z1 z2 a c;go_loopw [10,11,12,14,97] (fun l8 l9 m3 _ q wq=>∃ (i:Nat),i<=x.bkn/\q=int i64 i/\l8=int i64 (cnt (fun i=>On x k i/\0<(x.bk i).len) i:Nat)/\l9=int i64 (cnt (fun i=>On x k i/\0<(x.bk i).cl) i:Nat)/\m3=int i64 (cnt (On x k) i:Nat)/\(∀ j,j<i->On x k j->zbX s l (x.bk j))/\Below X.heap.size X wq) (fun _ _ _ _ q _=>x.bkn - (intOf q).toNat)
       case atStart=>exact⟨0,Nat.zero_le _,rfl,rfl,rfl,rfl,fun j hj=>by omega,bZ⟩
       case round =>
        obtain⟨i,hi,rfl,rfl,rfl,rfl,v,c⟩:=hrel;have HW:=hI v;clear v;have a:=ze (ze y d) c;obtain⟨m0,g5⟩:∃ m,m=cnt (fun i=>On x k i/\0<(x.bk i).len) i:=⟨_,rfl⟩
        have m7:m0<=i:=by rw[g5];exact zhT _ _
        have W:=hI g5;rw[← g5];clear g5;obtain⟨m1,g6⟩:∃ m,m=cnt (fun i=>On x k i/\0<(x.bk i).cl) i:=⟨_,rfl⟩
        have m8:m1<=i:=by rw[g6];exact zhT _ _
        have f:=hI g6;rw[← g6];clear g6;obtain⟨m2,g7⟩:∃ m,m=cnt (On x k) i:=⟨_,rfl⟩;have m9:m2<=i:=by rw[g7];exact zhT _ _
        have R:=hI g7;rw[← g7];clear g7
        by_cases hlt2:i<x.bkn
        ·obtain⟨C,hC,hI⟩:=i6.out
         obtain⟨bb,bo,rfl,K⟩:=hC i hlt2;obtain⟨a8,b3,J,i0,j6⟩:=hI i hlt2;obtain⟨b,hb⟩:∃ b,b=x.bk i:=⟨_,rfl⟩;rw[← hb] at J i0 j6;have I:=hI hb;have k3:=hI i0;have j8:Hid (ql.Short b 1048576):=by rw[hb];exact a3.out.2.2.2 i hlt2
         have L:bb<w.heap.size:=World.block_lt_of_cell? w _ (K 0 (by decide))
         have c0:wr.cell? ⟨bb,bo+i*13,none⟩=some (int i64 b.name):=(a.cell (p:=⟨bb,bo+i*13,none⟩) L).trans (by have:=K 0 (by decide);rw[J] at this;exact this)
         have c1:wr.cell? ⟨bb,bo+i*13+1,none⟩=some (int i64 b.who):=(a.cell (p:=⟨bb,bo+i*13+1,none⟩) L).trans (by have:=K 1 (by decide);rw[J] at this;exact this)
         have c2:wr.cell? ⟨bb,bo+i*13+2,none⟩=some (.string b.own):=(a.cell (p:=⟨bb,bo+i*13+2,none⟩) L).trans (by have:=K 2 (by decide);rw[J] at this;exact this)
         have c3:wr.cell? ⟨bb,bo+i*13+3,none⟩=some (.slice a8 b.lgn b3):=(a.cell (p:=⟨bb,bo+i*13+3,none⟩) L).trans (by have:=K 3 (by decide);rw[J] at this;exact this)
         have c4:wr.cell? ⟨bb,bo+i*13+4,none⟩=some (int i64 b.pe):=(a.cell (p:=⟨bb,bo+i*13+4,none⟩) L).trans (by have:=K 4 (by decide);rw[J] at this;exact this)
         have c5:wr.cell? ⟨bb,bo+i*13+5,none⟩=some (int i64 b.len):=(a.cell (p:=⟨bb,bo+i*13+5,none⟩) L).trans (by have:=K 5 (by decide);rw[J] at this;exact this)
         have c6:wr.cell? ⟨bb,bo+i*13+6,none⟩=some (int i64 b.hei):=(a.cell (p:=⟨bb,bo+i*13+6,none⟩) L).trans (by have:=K 6 (by decide);rw[J] at this;exact this)
         have c7:wr.cell? ⟨bb,bo+i*13+7,none⟩=some (int i64 b.cl):=(a.cell (p:=⟨bb,bo+i*13+7,none⟩) L).trans (by have:=K 7 (by decide);rw[J] at this;exact this)
         have c8:wr.cell? ⟨bb,bo+i*13+8,none⟩=some (.bool b.all):=(a.cell (p:=⟨bb,bo+i*13+8,none⟩) L).trans (by have:=K 8 (by decide);rw[J] at this;exact this)
         have c9:wr.cell? ⟨bb,bo+i*13+9,none⟩=some (int i64 b.be):=(a.cell (p:=⟨bb,bo+i*13+9,none⟩) L).trans (by have:=K 9 (by decide);rw[J] at this;exact this)
         have k8:wr.cell? ⟨bb,bo+i*13+10,none⟩=some (int i64 b.state):=(a.cell (p:=⟨bb,bo+i*13+10,none⟩) L).trans (by have:=K 10 (by decide);rw[J] at this;exact this)
         have k9:wr.cell? ⟨bb,bo+i*13+11,none⟩=some (int i64 b.unt):=(a.cell (p:=⟨bb,bo+i*13+11,none⟩) L).trans (by have:=K 11 (by decide);rw[J] at this;exact this)
         have l3:wr.cell? ⟨bb,bo+i*13+12,none⟩=some (int i64 b.price):=(a.cell (p:=⟨bb,bo+i*13+12,none⟩) L).trans (by have:=K 12 (by decide);rw[J] at this;exact this)
         clear hC hI K J hb i0 j6;go_wp2_with fail;have bB:=heap_alloc_new wr (.cells #[int i64 b.name,int i64 b.who,.string b.own,.slice a8 b.lgn b3,int i64 b.pe,int i64 b.len,int i64 b.hei,int i64 b.cl,.bool b.all,int i64 b.be,int i64 b.state,int i64 b.unt,int i64 b.price] 150);have g:Below X.heap.size X (wr.alloc (.cells #[int i64 b.name,int i64 b.who,.string b.own,.slice a8 b.lgn b3,int i64 b.pe,int i64 b.len,int i64 b.hei,int i64 b.cl,.bool b.all,int i64 b.be,int i64 b.state,int i64 b.unt,int i64 b.price] 150)):=zk c _;generalize wr.alloc (.cells #[int i64 b.name,int i64 b.who,.string b.own,.slice a8 b.lgn b3,int i64 b.pe,int i64 b.len,int i64 b.hei,int i64 b.cl,.bool b.all,int i64 b.be,int i64 b.state,int i64 b.unt,int i64 b.price] 150)=Y at bB g ⊢;generalize wr.heap.size=n6 at bB ⊢;clear c0 c1 c2 c3 c4 c5 c6 c7 c8 c9 k8 k9 l3 c a;refine(zft b a8 b3 _).mono ?_;rintro e Y1 ⟨rfl,b4⟩;have g3:=zb bB b4;have H:=ze g b4;clear bB g b4;obtain⟨t1,e4⟩:∃ t,t=decide (zez b):=⟨_,rfl⟩;rw[← e4];have a4:Hid (t1=true↔zez b):=by show t1=true↔zez b;rw[e4,decide_eq_true_eq]
         clear e4
         cases t1 with
         | false =>
          have D:Hid (¬ On x k i):=fun h=>by unfold On at h;rw[← I.out,← O.out] at h;have:=a4.out.2 h.1;cases this
          go_wp2;go_roundw
          case rel=>exact⟨i+1,by omega,by go_num,by rw[zae (fun h=>D.out h.1),← W.out],by rw[zae (fun h=>D.out h.1),← f.out],by rw[zae D.out,← R.out],fun j hj ho=>by
           by_cases e:j=i
           ·subst e;exact absurd ho D.out
           ·exact HW.out j (by omega) ho,H⟩
          case measure=>simp[intOf];omega
         | true =>
          have j0:Hid (zez b):=a4.out.1 rfl;clear a4;have y3:=za g3 3 _ rfl;have s0:=za (zb Q H) 0 _ rfl;go_wp2_with fail;refine(zkV a8 b.lgn b3 b.lg s.id _ j8.out.2 (k3.out.below (ze (ze y d) H))).mono ?_;rintro e Y2 ⟨⟨t2,rfl,e9⟩,i3⟩;have i3:=i3.symm;subst i3;have a5:=hI e9;clear e9 y3 s0
          cases t2 with
          | false =>
           have D:Hid (¬ On x k i):=fun h=>by unfold On at h;rw[← I.out,← O.out] at h;have:=a5.out.2 h.2;cases this
           go_wp2;go_roundw
           case rel=>exact⟨i+1,by omega,by go_num,by rw[zae (fun h=>D.out h.1),← W.out],by rw[zae (fun h=>D.out h.1),← f.out],by rw[zae D.out,← R.out],fun j hj ho=>by
            by_cases e:j=i
            ·subst e;exact absurd ho D.out
            ·exact HW.out j (by omega) ho,H⟩
           case measure=>simp[intOf];omega
          | true =>
           have S:Hid (On x k i):=by show On x k i;unfold On;rw[← I.out,← O.out];exact⟨j0.out,a5.out.1 rfl⟩
           clear a5 j0;obtain⟨y0,y1,y2,y3,y4,y5,y6,y7,y8,y9,m4,m5,m6⟩:=zeX g3;obtain⟨s0,s1,s2,s3,s4,s5,s6,s7⟩:=ce8 (zb Q H);obtain⟨l0,l1,l2⟩:=ce3 (zb P H);have e8:=ze (ze y d) H;go_wp2_with fail;refine(zkM s la ca lc cc l G E F u n r b a8 b3 _ a2.out.1 a2.out.2.1 a2.out.2.2 (g8.out.below e8) (h5.out.below e8) (g9.out.below e8) (h0.out.below e8) j9.out).mono ?_;rintro e Y3 ⟨⟨t3,rfl,f8⟩,b4⟩;have a6:=hI f8;have j2:=zb g3 b4;have a1:=ze H b4;clear f8 y0 y1 y2 y3 y4 y5 y6 y7 y8 y9 m4 m5 m6 s0 s1 s2 s3 s4 s5 s6 s7 l0 l1 l2 g3 H b4 e8
           cases t3 with
           | false =>
            have D:Hid (¬ Zk x):=fun h=>by have h:=(h.2.2.2.2.2 k hlt).1 i hlt2 S.out;rw[← I.out,← O.out,← U.out] at h;have:=a6.out.2 h;cases this
            go_wp2;go_ret;exact⟨zl D.out,ze (ze y d) a1⟩
           | true =>
            have d7:Hid (zbX s l (x.bk i)):=by show zbX s l (x.bk i);rw[← I.out];exact a6.out.1 rfl
            clear a6;have y5:=za j2 5 _ rfl;have y7:=za j2 7 _ rfl;have n0:IntKind.i64.wrap ((m0:Int)+1)=(m0:Int)+1:=by rw[IntKind.wrap_i64];omega
            have n4:IntKind.i64.wrap ((m1:Int)+1)=(m1:Int)+1:=by rw[IntKind.wrap_i64];omega
            have n5:IntKind.i64.wrap ((m2:Int)+1)=(m2:Int)+1:=by rw[IntKind.wrap_i64];omega
            by_cases u1:0<b.len
            ·have l7:decide (0<b.len)=true:=decide_eq_true u1
             have e7:=hI u1;clear u1
             by_cases u2:0<b.cl
             ·have i4:decide (0<b.cl)=true:=decide_eq_true u2
              have a7:=hI u2;clear u2;go_wp2;go_roundw
              case rel=>exact⟨i+1,by omega,by go_num,by rw[Qy ⟨S.out,by rw[← I.out];exact e7.out⟩,← W.out];simp,by rw[Qy ⟨S.out,by rw[← I.out];exact a7.out⟩,← f.out];simp,by rw[Qy S.out,← R.out];simp,fun j hj ho=>by
               by_cases e:j=i
               ·subst e;exact d7.out
               ·exact HW.out j (by omega) ho,a1⟩
              case measure=>simp[intOf];omega
             ·have i4:decide (0<b.cl)=false:=decide_eq_false u2
              have a7:=hI u2;clear u2;go_wp2;go_roundw
              case rel=>exact⟨i+1,by omega,by go_num,by rw[Qy ⟨S.out,by rw[← I.out];exact e7.out⟩,← W.out];simp,by rw[zae (fun h=>by have h1:=h.2;rw[← I.out] at h1;have h2:=a7.out;omega),← f.out],by rw[Qy S.out,← R.out];simp,fun j hj ho=>by
               by_cases e:j=i
               ·subst e;exact d7.out
               ·exact HW.out j (by omega) ho,a1⟩
              case measure=>simp[intOf];omega
            ·have l7:decide (0<b.len)=false:=decide_eq_false u1
             have e7:=hI u1;clear u1
             by_cases u2:0<b.cl
             ·have i4:decide (0<b.cl)=true:=decide_eq_true u2
              have a7:=hI u2;clear u2;go_wp2;go_roundw
              case rel=>exact⟨i+1,by omega,by go_num,by rw[zae (fun h=>by have h1:=h.2;rw[← I.out] at h1;have h2:=e7.out;omega),← W.out],by rw[Qy ⟨S.out,by rw[← I.out];exact a7.out⟩,← f.out];simp,by rw[Qy S.out,← R.out];simp,fun j hj ho=>by
               by_cases e:j=i
               ·subst e;exact d7.out
               ·exact HW.out j (by omega) ho,a1⟩
              case measure=>simp[intOf];omega
             ·have i4:decide (0<b.cl)=false:=decide_eq_false u2
              have a7:=hI u2;clear u2;go_wp2;go_roundw
              case rel=>exact⟨i+1,by omega,by go_num,by rw[zae (fun h=>by have h1:=h.2;rw[← I.out] at h1;have h2:=e7.out;omega),← W.out],by rw[zae (fun h=>by have h1:=h.2;rw[← I.out] at h1;have h2:=a7.out;omega),← f.out],by rw[Qy S.out,← R.out];simp,fun j hj ho=>by
               by_cases e:j=i
               ·subst e;exact d7.out
               ·exact HW.out j (by omega) ho,a1⟩
              case measure=>simp[intOf];omega
        ·obtain rfl:i=x.bkn:=by omega
         obtain⟨l0,l1,l2⟩:=ce3 (zb P c);have e6:Hid (zaQ x k↔l.stn=m0/\l.ron=m1/\l.sen=m2):=by
          show zaQ x k↔l.stn=m0/\l.ron=m1/\l.sen=m2
          unfold zaQ;rw[← O.out,← U.out,W.out,f.out,R.out];exact⟨fun h=>h.2,fun h=>⟨HW.out,h⟩⟩
         have g1:=hI (ze d c);clear c W f R HW
         by_cases v1:l.stn=m0
         case neg =>
          have e1:((l.stn:Int) != (m0:Int))=true:=by simp;omega
          have D:Hid (¬ Zk x):=fun h=>v1 (e6.out.1 (h.2.2.2.2.2 k hlt)).1
          clear v1;go_wp2;go_ret;exact⟨zl D.out,ze y g1.out⟩
         have e1:((l.stn:Int) != (m0:Int))=false:=by simp;omega
         by_cases v2:l.ron=m1
         case neg =>
          have e2:((l.ron:Int) != (m1:Int))=true:=by simp;omega
          have D:Hid (¬ Zk x):=fun h=>v2 (e6.out.1 (h.2.2.2.2.2 k hlt)).2.1
          clear v1 v2;go_wp2;go_ret;exact⟨zl D.out,ze y g1.out⟩
         have e2:((l.ron:Int) != (m1:Int))=false:=by simp;omega
         by_cases v3:l.sen=m2
         case neg =>
          have e3:((l.sen:Int) != (m2:Int))=true:=by simp;omega
          have D:Hid (¬ Zk x):=fun h=>v3 (e6.out.1 (h.2.2.2.2.2 k hlt)).2.2
          clear v1 v2 v3;go_wp2;go_ret;exact⟨zl D.out,ze y g1.out⟩
         have e3:((l.sen:Int) != (m2:Int))=false:=by simp;omega
         have k7:Hid (zaQ x k):=e6.out.2 ⟨v1,v2,v3⟩;clear v1 v2 v3 e6;go_wp2;go_roundw
         case rel=>exact⟨k+1,by omega,by go_num,fun j hj=>by
          by_cases e:j=k
          ·subst e;exact k7.out
          ·exact HA.out j (by omega),g1.out⟩
         case measure=>simp[intOf];omega
      ·obtain rfl:k=x.san:=by omega
       have HY:Hid (Zk x):=⟨j1.out,f.out,R.out,i7.out,k2.out,HA.out⟩;clear HA;go_wp2;go_ret;exact⟨zR HY.out,a⟩
open Classical in
noncomputable instance (x:Off):Decidable (Zk x):=propDecidable _
end
def DopAns (x:Off)(a:Int)(y:OpD)(m base:Nat)(e:Ending)(w':World):Prop :=
 (Zk x/\zbn x.bkn x.bk a/\∃ x2 a1 c1 a2 c2 a3 c3 code name price rv L C A B D E,e=.returned (.tuple #[.agg #[.slice a1 x2.san c1,.slice a2 x2.ldn c2,.slice a3 x2.bkn c3],.agg #[int i64 code,int i64 name,int i64 price,rv],.bool true]) /\
  zF w' base (.slice a1 x2.san c1) (.slice a2 x2.ldn c2) (.slice a3 x2.bkn c3) x2.san x2.ldn x2.bkn x2 L C A B D E/\zhG x a y m x2 code name price/\RowsBe x a y m code w' rv) ∨
 (¬ (Zk x/\zbn x.bkn x.bk a)/\e=.returned (.tuple #[.agg #[.slice none 0 0,.slice none 0 0,.slice none 0 0],.agg #[int i64 0,int i64 0,int i64 0,.slice none 0 0],.bool false]))
theorem zmp (x:Off)(k i f j:Option Addr)(q o l p m:Nat)(F:Int)(y:OpD)(w:World)(hs:Off.Short x 1048576)(b8:qB w k x.san x.sa)(b5:ZG w i x.ldn x.ld)(a8:qO w f x.bkn x.bk)(f6:x.bkn<=l)(b6:zT w j y.lgn y.lg)(b9:qj j y.lgn p)(hl:y.lgn<=1048576)(ho:y.own.size<=1048576)(hm:zac y->In y.kind 4 8->y.name=(m:Int)+1/\m<=1048576) :
  Calls Tryz.prog 8 #[.agg #[.slice k x.san q,.slice i x.ldn o,.slice f x.bkn l],int i64 F,.agg #[int i64 y.kind,.string y.own,int i64 y.name,.slice j y.lgn p,int i64 y.pe,int i64 y.len,int i64 y.hei,int i64 y.cl,.bool y.all,int i64 y.be,int i64 y.unt,int i64 y.now]] w fun e w'=>DopAns x F y m w.heap.size e w'/\Below w.heap.size w w':=by
 have HS:=hI hs;have S:Hid (qB w k x.san x.sa/\ZG w i x.ldn x.ld/\qO w f x.bkn x.bk/\zT w j y.lgn y.lg/\qj j y.lgn p):=⟨b8,b5,a8,b6,b9⟩;have HN:=hI hm;clear hs b8 b5 a8 b6 b9 hm;have a:Below w.heap.size w ((((w.alloc (.cells #[.slice k x.san q,.slice i x.ldn o,.slice f x.bkn l] 38)).alloc (.cells #[int i64 y.kind,.string y.own,int i64 y.name,.slice j y.lgn p,int i64 y.pe,int i64 y.len,int i64 y.hei,int i64 y.cl,.bool y.all,int i64 y.be,int i64 y.unt,int i64 y.now] 47)).alloc (.cells #[.slice none 0 0,.slice none 0 0,.slice none 0 0] 38)).alloc (.cells #[int i64 0,int i64 0,int i64 0,.slice none 0 0] 41)):=zk (zk (zk (zk bZ _) _) _) _;have U:=zd (zd (zd (heap_alloc_new w (.cells #[.slice k x.san q,.slice i x.ldn o,.slice f x.bkn l] 38)) (.cells #[int i64 y.kind,.string y.own,int i64 y.name,.slice j y.lgn p,int i64 y.pe,int i64 y.len,int i64 y.hei,int i64 y.cl,.bool y.all,int i64 y.be,int i64 y.unt,int i64 y.now] 47)) (.cells #[.slice none 0 0,.slice none 0 0,.slice none 0 0] 38)) (.cells #[int i64 0,int i64 0,int i64 0,.slice none 0 0] 41);have b1:=zd (zd (zfT w (.cells #[.slice k x.san q,.slice i x.ldn o,.slice f x.bkn l] 38) (.cells #[int i64 y.kind,.string y.own,int i64 y.name,.slice j y.lgn p,int i64 y.pe,int i64 y.len,int i64 y.hei,int i64 y.cl,.bool y.all,int i64 y.be,int i64 y.unt,int i64 y.now] 47)) (.cells #[.slice none 0 0,.slice none 0 0,.slice none 0 0] 38)) (.cells #[int i64 0,int i64 0,int i64 0,.slice none 0 0] 41);have t:=zd (show(((w.alloc (.cells #[.slice k x.san q,.slice i x.ldn o,.slice f x.bkn l] 38)).alloc (.cells #[int i64 y.kind,.string y.own,int i64 y.name,.slice j y.lgn p,int i64 y.pe,int i64 y.len,int i64 y.hei,int i64 y.cl,.bool y.all,int i64 y.be,int i64 y.unt,int i64 y.now] 47)).alloc (.cells #[.slice none 0 0,.slice none 0 0,.slice none 0 0] 38)).heap[w.heap.size+1+1]?=some (.cells #[.slice none 0 0,.slice none 0 0,.slice none 0 0] 38 (0,0)) from by simpa using heap_alloc_new ((w.alloc (.cells #[.slice k x.san q,.slice i x.ldn o,.slice f x.bkn l] 38)).alloc (.cells #[int i64 y.kind,.string y.own,int i64 y.name,.slice j y.lgn p,int i64 y.pe,int i64 y.len,int i64 y.hei,int i64 y.cl,.bool y.all,int i64 y.be,int i64 y.unt,int i64 y.now] 47)) (.cells #[.slice none 0 0,.slice none 0 0,.slice none 0 0] 38)) (.cells #[int i64 0,int i64 0,int i64 0,.slice none 0 0] 41)
 have r:((((w.alloc (.cells #[.slice k x.san q,.slice i x.ldn o,.slice f x.bkn l] 38)).alloc (.cells #[int i64 y.kind,.string y.own,int i64 y.name,.slice j y.lgn p,int i64 y.pe,int i64 y.len,int i64 y.hei,int i64 y.cl,.bool y.all,int i64 y.be,int i64 y.unt,int i64 y.now] 47)).alloc (.cells #[.slice none 0 0,.slice none 0 0,.slice none 0 0] 38)).alloc (.cells #[int i64 0,int i64 0,int i64 0,.slice none 0 0] 41)).heap[w.heap.size+1+1+1]?=some (.cells #[int i64 0,int i64 0,int i64 0,.slice none 0 0] 41 (0,0)):=by simpa using heap_alloc_new (((w.alloc (.cells #[.slice k x.san q,.slice i x.ldn o,.slice f x.bkn l] 38)).alloc (.cells #[int i64 y.kind,.string y.own,int i64 y.name,.slice j y.lgn p,int i64 y.pe,int i64 y.len,int i64 y.hei,int i64 y.cl,.bool y.all,int i64 y.be,int i64 y.unt,int i64 y.now] 47)).alloc (.cells #[.slice none 0 0,.slice none 0 0,.slice none 0 0] 38)) (.cells #[int i64 0,int i64 0,int i64 0,.slice none 0 0] 41)
 go_enter Tryz.func8,Tryz.ntmps8;go_wp2_with fail;generalize ((((w.alloc (.cells #[.slice k x.san q,.slice i x.ldn o,.slice f x.bkn l] 38)).alloc (.cells #[int i64 y.kind,.string y.own,int i64 y.name,.slice j y.lgn p,int i64 y.pe,int i64 y.len,int i64 y.hei,int i64 y.cl,.bool y.all,int i64 y.be,int i64 y.unt,int i64 y.now] 47)).alloc (.cells #[.slice none 0 0,.slice none 0 0,.slice none 0 0] 38)).alloc (.cells #[int i64 0,int i64 0,int i64 0,.slice none 0 0] 41))=W at a U b1 t r ⊢;refine(zmo x k i f q o l _ HS.out (S.out.1.below a) (S.out.2.1.below a) (S.out.2.2.1.below a) f6).mono ?_;rintro e V ⟨⟨t0,rfl,c0⟩,n⟩;have Z:=hI c0;replace a:=ze a n;replace U:=zb U n;replace b1:=zb b1 n;replace t:=zb t n;replace r:=zb r n;clear n W c0;obtain⟨f0,f1,f2⟩:=ce3 U
 cases t0 with
 | false =>
  have HF:Hid (¬ (Zk x/\zbn x.bkn x.bk F)):=fun h=>by have:=Z.out.2 h.1;cases this
  obtain⟨s0,s1,s2⟩:=ce3 t;obtain⟨d4,d5,d6⟩:=fe3 t;obtain⟨t0,t1,t2,t3⟩:=ce4 r;obtain⟨d7,d8,d9,e0⟩:=fe4 r;have a1:=(zkQ _ (w.heap.size+1+1) (.slice none 0 0) (.slice none 0 0) (.slice none 0 0)).blk r (by show ¬ _=_;omega)
  have q2:=zeN t (.slice none 0 0) (.slice none 0 0) (.slice none 0 0);have q3:=(zaU _ (w.heap.size+1+1+1) (int i64 0) (int i64 0) (int i64 0) (.slice none 0 0)).blk q2 (by show ¬ _=_;omega)
  have q4:=zcJ a1 (int i64 0) (int i64 0) (int i64 0) (.slice none 0 0);have X:Hid _:=zx.below (zx.below a a.size (zkQ _ (w.heap.size+1+1) (.slice none 0 0) (.slice none 0 0) (.slice none 0 0)) (fun b e=>by have e:b=w.heap.size+1+1:=e;omega)) (by have:=a.size;simpa using this) (zaU _ (w.heap.size+1+1+1) (int i64 0) (int i64 0) (int i64 0) (.slice none 0 0)) (fun b e=>by have e:b=w.heap.size+1+1+1:=e;omega)
  go_wp2;obtain⟨x0,x1,d⟩:=ce3 q3;obtain⟨z0,z1,z2,z3⟩:=ce4 q4;exact bodyPost_ret (v:=.tuple #[.agg #[.slice none 0 0,.slice none 0 0,.slice none 0 0],.agg #[int i64 0,int i64 0,int i64 0,.slice none 0 0],.bool false]) (by simp[results,Tryz.results8,go_sem,x0,x1,d,z0,z1,z2,z3]) rfl ⟨.inr ⟨HF.out,rfl⟩,X.out⟩
 | true =>
 have a4:Hid (Zk x):=Z.out.1 rfl;clear Z;go_wp2_with fail;refine(zmh k i f x.san x.ldn x.bkn q o l x F _ (by have:=HS.out.2.2.1;omega) (S.out.2.2.1.below a)).mono ?_
 rintro e V2 ⟨⟨t1,rfl,c9⟩,n⟩;have a0:=hI c9;replace a:=ze a n;replace U:=zb U n;replace b1:=zb b1 n;replace t:=zb t n;replace r:=zb r n;clear n c9 f0 f1 f2 V
 cases t1 with
 | false =>
  have HF:Hid (¬ (Zk x/\zbn x.bkn x.bk F)):=fun h=>by have:=a0.out.2 h.2;cases this
  obtain⟨s0,s1,s2⟩:=ce3 t;obtain⟨d4,d5,d6⟩:=fe3 t;obtain⟨t0,t1,t2,t3⟩:=ce4 r;obtain⟨d7,d8,d9,e0⟩:=fe4 r;have a1:=(zkQ _ (w.heap.size+1+1) (.slice none 0 0) (.slice none 0 0) (.slice none 0 0)).blk r (by show ¬ _=_;omega)
  have q2:=zeN t (.slice none 0 0) (.slice none 0 0) (.slice none 0 0);have q3:=(zaU _ (w.heap.size+1+1+1) (int i64 0) (int i64 0) (int i64 0) (.slice none 0 0)).blk q2 (by show ¬ _=_;omega)
  have q4:=zcJ a1 (int i64 0) (int i64 0) (int i64 0) (.slice none 0 0);have X:Hid _:=zx.below (zx.below a a.size (zkQ _ (w.heap.size+1+1) (.slice none 0 0) (.slice none 0 0) (.slice none 0 0)) (fun b e=>by have e:b=w.heap.size+1+1:=e;omega)) (by have:=a.size;simpa using this) (zaU _ (w.heap.size+1+1+1) (int i64 0) (int i64 0) (int i64 0) (.slice none 0 0)) (fun b e=>by have e:b=w.heap.size+1+1+1:=e;omega)
  go_wp2;obtain⟨x0,x1,d⟩:=ce3 q3;obtain⟨z0,z1,z2,z3⟩:=ce4 q4;exact bodyPost_ret (v:=.tuple #[.agg #[.slice none 0 0,.slice none 0 0,.slice none 0 0],.agg #[int i64 0,int i64 0,int i64 0,.slice none 0 0],.bool false]) (by simp[results,Tryz.results8,go_sem,x0,x1,d,z0,z1,z2,z3]) rfl ⟨.inr ⟨HF.out,rfl⟩,X.out⟩
 | true =>
 have Y:Hid (zbn x.bkn x.bk F):=a0.out.1 rfl;clear a0;obtain⟨f0,f1,f2⟩:=ce3 U;obtain⟨h0,h1,h2,h3,h4,h5,h6,h7,h8,h9,f3,f4⟩:=zeW b1;go_wp2_with fail;refine(l7Op_any x k i f j q o l p m F y _ HS.out (S.out.1.below a) (S.out.2.1.below a) (S.out.2.2.1.below a) (S.out.2.2.2.1.below a) S.out.2.2.2.2 hl ho a4.out Y.out.1 Y.out.2 HN.out).mono ?_;rintro e u ⟨⟨d,K,P,N,Q,O,R,code,name,price,rv,L,C,A,B,D,E,rfl,b7,d0,a2⟩,T⟩;have e7:=hI (b7.lower a.size);have e9:=hI d0;obtain⟨H,J,I,rfl⟩:∃ H J I,rv=.slice H J I:=by
  rcases a2 with⟨h,_⟩|⟨M,b,_,_,h⟩
  ·exact⟨_,_,_,h⟩
  ·by_cases h9:y.kind=9
   ·obtain⟨_,_,_,h3⟩:=h.1 h9
    obtain⟨ao,c,e,_⟩:=zp h3;exact⟨ao,_,c,e⟩
   ·exact⟨none,0,0,h.2 h9⟩
 have e8:Hid _:=a2;replace a:=ze a T;replace t:=zb t T;replace r:=zb r T;clear b7 d0 a2 T f0 f1 f2 h0 h1 h2 h3 h4 h5 h6 h7 h8 h9 f3 f4 U b1 V2;have f5:w.heap.size+1+1+1<u.heap.size:=zM r;go_upto_region 4 with fail;have pA:=zd (heap_alloc_new u (.cells #[.slice K d.san P,.slice N d.ldn Q,.slice O d.bkn R] 38)) (.cells #[int i64 code,int i64 name,int i64 price,.slice H J I] 41);have pB:=zfT u (.cells #[.slice K d.san P,.slice N d.ldn Q,.slice O d.bkn R] 38) (.cells #[int i64 code,int i64 name,int i64 price,.slice H J I] 41);have G:Below u.heap.size u ((u.alloc (.cells #[.slice K d.san P,.slice N d.ldn Q,.slice O d.bkn R] 38)).alloc (.cells #[int i64 code,int i64 name,int i64 price,.slice H J I] 41)):=zk (zk bZ _) _;have a5:Hid _:=e7.out.below G;have r2:=zb t G;have r3:=zb r G;have a9:=ze a G;have a6:Hid (zx u ((u.alloc (.cells #[.slice K d.san P,.slice N d.ldn Q,.slice O d.bkn R] 38)).alloc (.cells #[int i64 code,int i64 name,int i64 price,.slice H J I] 41)) (fun b=>b=w.heap.size+1+1∨b=w.heap.size+1+1+1)):=zx.of_below G
 generalize (u.alloc (.cells #[.slice K d.san P,.slice N d.ldn Q,.slice O d.bkn R] 38)).alloc (.cells #[int i64 code,int i64 name,int i64 price,.slice H J I] 41)=wf at pA pB G a5 r2 r3 a9 a6 ⊢;generalize u.heap.size=s at pA pB f5 ⊢;have p0:=pA;have pT:=pB;have KS:Hid (∀ z:World,z.heap[s]?=some (.cells #[.slice K d.san P,.slice N d.ldn Q,.slice O d.bkn R] 38 (0,0))->z.heap[s+1]?=some (.cells #[int i64 code,int i64 name,int i64 price,.slice H J I] 41 (0,0))->z.cell? ⟨s,0,none⟩=some (.slice K d.san P)/\z.cell? ⟨s,1,none⟩=some (.slice N d.ldn Q)/\z.cell? ⟨s,2,none⟩=some (.slice O d.bkn R)/\z.cell? ⟨s+1,0,none⟩=some (int i64 code)/\z.cell? ⟨s+1,1,none⟩=some (int i64 name)/\z.cell? ⟨s+1,2,none⟩=some (int i64 price)/\z.cell? ⟨s+1,3,none⟩=some (.slice H J I)):=fun z h1 h2=>⟨za h1 0 _ rfl,za h1 1 _ rfl,za h1 2 _ rfl,za h2 0 _ rfl,za h2 1 _ rfl,za h2 2 _ rfl,za h2 3 _ rfl⟩
 obtain⟨s0,s1,s2⟩:=ce3 r2;obtain⟨d4,d5,d6⟩:=fe3 r2;obtain⟨t0,t1,t2,t3⟩:=ce4 r3;obtain⟨d7,d8,d9,e0⟩:=fe4 r3;go_region_held3 (fun w'=>w'.cell? ⟨s,0,none⟩=some (.slice K d.san P)/\w'.cell? ⟨s,1,none⟩=some (.slice N d.ldn Q)/\w'.cell? ⟨s,2,none⟩=some (.slice O d.bkn R)/\w'.cell? ⟨s+1,0,none⟩=some (int i64 code)/\w'.cell? ⟨s+1,1,none⟩=some (int i64 name)/\w'.cell? ⟨s+1,2,none⟩=some (int i64 price)/\w'.cell? ⟨s+1,3,none⟩=some (.slice H J I))
  (first|(refine KS.out _ ?_ ?_ <;> (repeat(first|with_reducible exact p0|with_reducible exact pT|(with_reducible refine zK ?_)|(with_reducible refine zD ?_ _ _ ?_;rotate_left;(focus omega))))))
  (fail)
 obtain⟨a3,f9,g0,a7,b4⟩:=zie a9 a5.out r2 r3 (by omega) (by omega) (int i64 code) (int i64 name) (int i64 price) (.slice H J I) rfl
 have e6:Hid _:=a3.below (Below.drew bZ);have e4:Hid _:=Below.drew a7;have e5:Hid _:=b4.trans (zx.of_below (Below.drew bZ));clear a3 a7 b4;obtain⟨x0,x1,g1⟩:=ce3 (zK f9);obtain⟨z0,z1,z2,z3⟩:=ce4 (zK g0);go_wp2;refine bodyPost_ret (v:=.tuple #[.agg #[.slice K d.san P,.slice N d.ldn Q,.slice O d.bkn R],.agg #[int i64 code,int i64 name,int i64 price,.slice H J I],.bool true]) (by simp[results,Tryz.results8,go_sem,x0,x1,g1,z0,z1,z2,z3]) rfl ⟨.inl ⟨a4.out,Y.out,d,K,P,N,Q,O,R,code,name,price,.slice H J I,L,C,A,B,D,E,rfl,?_,e9.out,?_⟩,e4.out⟩
 ·exact e6.out
 ·rcases e8.out with h|⟨M,b,f7,f8,h⟩
  ·exact .inl h
  ·exact .inr ⟨M,b,f7,f8,zeQ h (a6.out.trans e5.out) (fun g e=>by rcases e with e|e;exact⟨_,_,by rw[e];exact t,by decide⟩;exact⟨_,_,by rw[e];exact r,by decide⟩)⟩
theorem DopAns.res {x:Off}{c:Int}{y:OpD}{m base:Nat}{e:Ending}{w':World}(h:DopAns x c y m base e w'):∃ rb a code name price N T ok,Res x c y m a code name price N T ok/\zmO base rb a code name price N T ok e w':=by
 rcases h with⟨h1,h2,a,d,c1,f,c2,g,c3,code,name,price,rv,L,C,A,B,D,E,rfl,i,j,hr⟩|⟨h,rfl⟩
 ·rcases hr with⟨rfl,hr⟩|⟨M,b,p,r,hr⟩
  ·exact⟨0,a,code,name,price,0,zeM [],true,.inl ⟨⟨h1,h2⟩,rfl,j,.inl ⟨rfl,hr⟩⟩,d,c1,f,c2,g,c3,none,0,L,C,A,B,D,E,rfl,i,zbS w' 0 _ _⟩
  ·by_cases h9:y.kind=9
   ·obtain rfl:=r.nine h9
    obtain⟨k,rfl,_,l⟩:=hr.1 h9;obtain⟨n,o,rfl,_⟩:=zp l;exact⟨b,a,code,name,price,_,_,true,.inl ⟨⟨h1,h2⟩,rfl,j,.inr ⟨h9,p,rfl,rfl⟩⟩,d,c1,f,c2,g,c3,n,o,L,C,A,B,D,E,rfl,i,l⟩
   ·obtain rfl:=hr.2 h9
    exact⟨0,a,code,name,price,0,zeM [],true,.inl ⟨⟨h1,h2⟩,rfl,j,.inl ⟨rfl,fun q=>absurd q h9⟩⟩,d,c1,f,c2,g,c3,none,0,L,C,A,B,D,E,rfl,i,zbS w' 0 _ _⟩
 ·exact⟨0,znZ x,0,0,0,0,zeM [],false,.inr ⟨h,rfl,rfl,rfl,rfl,rfl,rfl⟩,zmO.no x base 0 _ w'⟩
end Go.Proofs.YtmdnjgihooflfaaGreatDoor
