/-
  OWN TEXT: PlacW, PlainDs, SpecSt, SpecNf, SpecOa, SpecOb, SpecOd.
-/
import Derived.Deep.LoopGhost
import Derived.Deep.DeepCutAuto
import Derived.Test.YtmdnjgihooflfaaGreatDoorB14
import Derived.Test.YtmdnjgihooflfaaGreatDoorB18
namespace Go.Proofs.YtmdnjgihooflfaaGreatDoor
open Go.RowKit
open Go.Value (int)
open Go.IntKind (i64)
set_option maxHeartbeats 64000000
set_option maxRecDepth 100000
def zmK (pe:Nat->Addr)(k:Nat):Ending:=.panicked [{ v:=.iface 96 (.agg #[.iface 391 (.pointer (some (pe k)))]),recovered:=false }]
theorem znC (s:Zj)(v:Wk)(l:zY)(n g:Option Addr)(t o:Nat)(w:World)(y:qm s l)(hr:v.res=1)(D:v.goes=false)(Q:In v.who 1 9999)(R:qI v.p)(C:In v.p.cl 1 3/\(v.p.all=false->In v.p.be 1 4))(E:¬ Has (ZV l.ro) l.ron v.who)(P:s.ca.n<=1048576)(F:zG w n s.ca)(G:qp w g l.ron l.ro)(p:qj g l.ron o) :
  Calls Tryz.prog 283 #[.agg #[int i64 v.leg,int i64 (v.res:Int),int i64 v.who,int i64 v.p.pe,int i64 v.p.len,int i64 v.p.hei,int i64 v.p.cl,.bool v.p.all,int i64 v.p.be,.bool v.goes],.slice n s.ca.n t,.slice g l.ron o] w fun e w'=>((∃ (x:qN) (u:Value),e=.returned (.tuple #[u,.bool true])/\qV s v l 0 (l.addRoom x)/\w'.ownsRow w.heap.size 228 4 u (l.ron+1) (zw (l.addRoom x).ro (l.ron+1)))∨(∃ u:Value,e=.returned (.tuple #[u,.bool false])/\qV s v l 6 l/\w'.ownsRow w.heap.size 228 4 u 0 []))/\Below w.heap.size w w':=by
 have O:l.ron<=60:=y.2.1.2.1;have H:∀ b:Bool,v.p.all=b->Hid (v.p.all=b):=fun _ h=>h
 have K:=hI y;have M:=hI F;have N:=hI G;have J:=hI E;have L:=hI hr;have I:=hI D;have a:Below w.heap.size w (w.alloc (.cells #[int i64 v.leg,int i64 (v.res:Int),int i64 v.who,int i64 v.p.pe,int i64 v.p.len,int i64 v.p.hei,int i64 v.p.cl,.bool v.p.all,int i64 v.p.be,.bool v.goes] 268)):=zk bZ _;have f:=heap_alloc_new w (.cells #[int i64 v.leg,int i64 (v.res:Int),int i64 v.who,int i64 v.p.pe,int i64 v.p.len,int i64 v.p.hei,int i64 v.p.cl,.bool v.p.all,int i64 v.p.be,.bool v.goes] 268)
 cases ha:v.p.all with
 | true =>
  have A:=hI ha;rw[ha] at a f;clear ha y F G E hr D H;go_enter Tryz.func283,Tryz.ntmps283;go_upto_region 1 with fail;generalize w.alloc (.cells #[int i64 v.leg,int i64 (v.res:Int),int i64 v.who,int i64 v.p.pe,int i64 v.p.len,int i64 v.p.hei,int i64 v.p.cl,.bool true,int i64 v.p.be,.bool v.goes] 268)=V at a f ⊢;have S:=za f 2 _ rfl;have y3:=za f 3 _ rfl;have T:=za f 6 _ rfl;have U:=za f 7 _ rfl;go_wp2_with fail;refine(ziQ n g s.ca.n t l.ron o s.ca l.ro v.who v.p.cl v.p.pe V rfl P (by omega) p.1 (M.out.below a) (N.out.below a) p.2.2).mono ?_
  rintro e W ⟨c,d⟩;have j:=ze a d
  rcases wholeW K.out L.out I.out A.out Q C.1 R.1 J.out c with⟨k,u,rfl,i,m⟩|⟨u,z,rfl,i,m⟩
  ·have r:=hI i
   have q:Hid _:=zu m a.size;clear c i m d;go_wp2;exact bodyPost_ret (v:=.tuple #[u,.bool true]) (by simp[results,Tryz.results283,go_sem]) rfl ⟨.inl ⟨_,u,rfl,r.out,q.out⟩,j⟩
  ·have r:=hI i
   have q:=hI (zu m a.size);clear c i m d;go_wp2;exact bodyPost_ret (v:=.tuple #[u,.bool false]) (by simp[results,Tryz.results283,go_sem]) rfl ⟨.inr ⟨u,rfl,r.out,q.out⟩,j⟩
 | false =>
  have A:=hI ha;have B:=C.2 ha;rw[ha] at a f;clear ha y F G E hr D H;go_enter Tryz.func283,Tryz.ntmps283;go_upto_region 1 with fail;generalize w.alloc (.cells #[int i64 v.leg,int i64 (v.res:Int),int i64 v.who,int i64 v.p.pe,int i64 v.p.len,int i64 v.p.hei,int i64 v.p.cl,.bool false,int i64 v.p.be,.bool v.goes] 268)=V at a f ⊢;have S:=za f 2 _ rfl;have T:=za f 6 _ rfl;have U:=za f 7 _ rfl;have y8:=za f 8 _ rfl;go_wp2_with fail;refine(zhC n g s.ca.n t l.ron o s.ca l.ro v.who v.p.cl v.p.be V rfl P (by omega) p.1 (M.out.below a) (N.out.below a) p.2.2).mono ?_
  rintro e W ⟨c,d⟩;have j:=ze a d
  rcases berthW K.out L.out I.out A.out Q C.1 B J.out c with⟨k,u,rfl,i,m⟩|⟨u,z,rfl,i,m⟩
  ·have r:=hI i
   have q:Hid _:=zu m a.size;clear c i m d;go_wp2;exact bodyPost_ret (v:=.tuple #[u,.bool true]) (by simp[results,Tryz.results283,go_sem]) rfl ⟨.inl ⟨_,u,rfl,r.out,q.out⟩,j⟩
  ·have r:=hI i
   have q:=hI (zu m a.size);clear c i m d;go_wp2;exact bodyPost_ret (v:=.tuple #[u,.bool false]) (by simp[results,Tryz.results283,go_sem]) rfl ⟨.inr ⟨u,rfl,r.out,q.out⟩,j⟩
theorem zcT (w:World)(a b c d:Obj):((((w.alloc a).alloc b).alloc c).alloc d).heap[w.heap.size]?=some a/\((((w.alloc a).alloc b).alloc c).alloc d).heap[w.heap.size+1]?=some b/\((((w.alloc a).alloc b).alloc c).alloc d).heap[w.heap.size+1+1]?=some c/\((((w.alloc a).alloc b).alloc c).alloc d).heap[w.heap.size+1+1+1]?=some d/\((((w.alloc a).alloc b).alloc c).alloc d).heap.size=w.heap.size+1+1+1+1:=by
 obtain⟨h1,h2,h3,e⟩:=zaB w a b c;exact⟨zd h1 _,zd h2 _,zd h3 _,by have:=heap_alloc_new (((w.alloc a).alloc b).alloc c) d;rw[e] at this;exact this,by simp⟩
theorem placed_0 (s:Zj)(v:Wk)(l:zY)(o E m c d:Option Addr)(A G t f g:Nat)(pe:Nat->Addr)(w:World)(W:qY w pe)(hL:qm s l)(hr:v.res=0)(hg:v.goes=false)(hw:In v.who 1 9999)(a8:qI v.p)(hc:zbA v.p.len v.p.hei)(hh:¬ Has (Qc l.st) l.stn v.who)(hn:s.la.n<=1048576)(hx:zG w o s.la)(hz:qw w m l.stn l.st)(Q:qj m l.stn t) :
  Calls Tryz.prog 250 #[.agg #[int i64 v.leg,int i64 (v.res:Int),int i64 v.who,int i64 v.p.pe,int i64 v.p.len,int i64 v.p.hei,int i64 v.p.cl,.bool v.p.all,int i64 v.p.be,.bool v.goes],.agg #[int i64 s.id,.string s.fr,.string s.dst,int i64 s.dep,int i64 s.arr,.slice o s.la.n A,.slice E s.ca.n G,int i64 s.most],.agg #[.slice m l.stn t,.slice c l.ron f,.slice d l.sen g]] w fun e w'=>((∃ (x:Zp) (h:Option Addr) (i:Nat),e=.returned (.agg #[.slice h (l.stn+1) i,.slice c l.ron f,.slice d l.sen g])/\qV s v l 0 (l.addStay x)/\w'.ownsRow w.heap.size 220 4 (.slice h (l.stn+1) i) (l.stn+1) (zy (l.addStay x).st (l.stn+1)))∨(e=zmK pe 5/\qV s v l 5 l))/\Below w.heap.size w w':=by
 have a7:l.stn<=60:=hL.1.2.1;have HL:=hI hL;have HX:=hI hx;have Z:=hI hz;have HH:=hI hh;have HR:=hI hr;have HG:=hI hg;have R:(v.res:Int)=0:=by omega
 rw[R];clear R hL hx hz hh hr hg;obtain⟨L,U,O,T,a1⟩:=zcT w (.cells #[int i64 v.leg,int i64 0,int i64 v.who,int i64 v.p.pe,int i64 v.p.len,int i64 v.p.hei,int i64 v.p.cl,.bool v.p.all,int i64 v.p.be,.bool v.goes] 268) (.cells #[int i64 s.id,.string s.fr,.string s.dst,int i64 s.dep,int i64 s.arr,.slice o s.la.n A,.slice E s.ca.n G,int i64 s.most] 140) (.cells #[.slice m l.stn t,.slice c l.ron f,.slice d l.sen g] 145) (.cells #[.slice none 0 0,.slice none 0 0,.slice none 0 0] 145);have n:Below w.heap.size w ((((w.alloc (.cells #[int i64 v.leg,int i64 0,int i64 v.who,int i64 v.p.pe,int i64 v.p.len,int i64 v.p.hei,int i64 v.p.cl,.bool v.p.all,int i64 v.p.be,.bool v.goes] 268)).alloc (.cells #[int i64 s.id,.string s.fr,.string s.dst,int i64 s.dep,int i64 s.arr,.slice o s.la.n A,.slice E s.ca.n G,int i64 s.most] 140)).alloc (.cells #[.slice m l.stn t,.slice c l.ron f,.slice d l.sen g] 145)).alloc (.cells #[.slice none 0 0,.slice none 0 0,.slice none 0 0] 145)):=zk (zk (zk (zk bZ _) _) _) _;go_enter Tryz.func250,Tryz.ntmps250;go_upto_region 2 with fail;generalize (((w.alloc (.cells #[int i64 v.leg,int i64 0,int i64 v.who,int i64 v.p.pe,int i64 v.p.len,int i64 v.p.hei,int i64 v.p.cl,.bool v.p.all,int i64 v.p.be,.bool v.goes] 268)).alloc (.cells #[int i64 s.id,.string s.fr,.string s.dst,int i64 s.dep,int i64 s.arr,.slice o s.la.n A,.slice E s.ca.n G,int i64 s.most] 140)).alloc (.cells #[.slice m l.stn t,.slice c l.ron f,.slice d l.sen g] 145)).alloc (.cells #[.slice none 0 0,.slice none 0 0,.slice none 0 0] 145)=V at L U O T a1 n ⊢;have y1:=za L 1 _ rfl;have a3:=za U 5 _ rfl;have a2:=za O 0 _ rfl;have a4:=za L 2 _ rfl;have a5:=za L 4 _ rfl;have a6:=za L 5 _ rfl;have a9:(v.res:Int)=0:=by have:=HR.out;omega
 go_wp2_with fail;clear y1 a3 a2 a4 a5 a6;refine(ziO o m s.la.n A l.stn t s.la l.st v.who v.p.len v.p.hei V rfl hn (by omega) Q.1 (HX.out.below n) (Z.out.below n) Q.2.2).mono ?_
 rintro e I ⟨D,C⟩;have y:=zb O C;have K:=zb T C;have q0:=za y 0 _ rfl;have g0:=zg y 0;have B:=ze n C;have c5:=(W.below B).c5;have b0:=World.block_lt_of_cell? w _ W.c5
 rcases placeW HL.out HR.out HG.out hw hc HH.out D with⟨k,u,rfl,P,N⟩|⟨u,z,rfl,P,N⟩
 ·have X:=hI P
  obtain⟨h,i,rfl,_⟩:=zp N;have M:zx I (I.setCell ⟨w.heap.size+1+1,0,none⟩ (.slice h (l.stn+1) i)) (fun b=>b=w.heap.size+1+1):=(zx.refl I (fun b=>b=w.heap.size+1+1)).set (a:=⟨w.heap.size+1+1,0,none⟩) rfl _
  have J:=(zlS y (.slice h (l.stn+1) i)).1;have r:=M.blk K (show ¬ w.heap.size+1+1+1=w.heap.size+1+1 by omega)
  have j:=B.setCell (p:=⟨w.heap.size+1+1,0,none⟩) (show w.heap.size<=w.heap.size+1+1 by omega) (.slice h (l.stn+1) i)
  have H:=M.own (zu N n.size) (fun q h1 h2=>by have h2:q=w.heap.size+1+1:=h2;have:=(World.ownsRow.lt N q h1).1;omega)
  have F:(I.setCell ⟨w.heap.size+1+1,0,none⟩ (.slice h (l.stn+1) i)).cell? ⟨5,0,none⟩=some (.iface 391 (.pointer (some (pe 5)))):=((W.below j).c5);go_upto_region 5 with fail;generalize I.setCell ⟨w.heap.size+1+1,0,none⟩ (.slice h (l.stn+1) i)=Y at J r j H F ⊢;clear q0 g0 M y K B N C O T L U n c5 D P;go_wp2_with fail;refine(ZD _ _).mono ?_;rintro e S ⟨rfl,a0⟩;subst a0;go_upto_region 12 with fail;clear F;obtain⟨l0,l1,l2⟩:=ce3 J;obtain⟨r0,r1,r2⟩:=ce3 r;obtain⟨f0,f1,f2⟩:=fe3 r;have HZ:Hid _:=zcq r (.slice h (l.stn+1) i) (.slice c l.ron f) (.slice d l.sen g);have HB:Hid (Below w.heap.size w (((S.setCell ⟨w.heap.size+1+1+1,0,none⟩ (.slice h (l.stn+1) i)).setCell ⟨w.heap.size+1+1+1,1,none⟩ (.slice c l.ron f)).setCell ⟨w.heap.size+1+1+1,2,none⟩ (.slice d l.sen g))):=((j.setCell (p:=⟨w.heap.size+1+1+1,0,none⟩) (by show _<=w.heap.size+1+1+1;omega) _).setCell (p:=⟨w.heap.size+1+1+1,1,none⟩) (by show _<=w.heap.size+1+1+1;omega) _).setCell (p:=⟨w.heap.size+1+1+1,2,none⟩) (by show _<=w.heap.size+1+1+1;omega) _
  have HO:Hid ((((S.setCell ⟨w.heap.size+1+1+1,0,none⟩ (.slice h (l.stn+1) i)).setCell ⟨w.heap.size+1+1+1,1,none⟩ (.slice c l.ron f)).setCell ⟨w.heap.size+1+1+1,2,none⟩ (.slice d l.sen g)).ownsRow w.heap.size 220 4 (.slice h (l.stn+1) i) (l.stn+1) (zy (l.addStay ⟨v.who,(k:Int),v.p.len,v.p.hei⟩).st (l.stn+1))):=((((zx.refl S (fun b=>b=w.heap.size+1+1+1)).set (a:=⟨w.heap.size+1+1+1,0,none⟩) rfl _).set (a:=⟨w.heap.size+1+1+1,1,none⟩) rfl _).set (a:=⟨w.heap.size+1+1+1,2,none⟩) rfl _).own H (fun q h1 h2=>by have h2:q=w.heap.size+1+1+1:=h2;subst h2;obtain⟨cs,e2⟩:=zA H _ h1;rw[r] at e2;simp at e2)
  clear J r j H;go_wp2;clear l0 l1 l2 r0 r1 r2 f0 f1 f2;obtain⟨z0,z1,z2⟩:=ce3 HZ.out;exact bodyPost_ret (v:=.agg #[.slice h (l.stn+1) i,.slice c l.ron f,.slice d l.sen g]) (by simp[results,Tryz.results250,go_sem,z0,z1,z2]) rfl ⟨.inl ⟨_,h,i,rfl,X.out,HO.out⟩,HB.out⟩
 ·have X:=hI P
  obtain⟨h,i,rfl,_⟩:=zp N;have j:=B.setCell (p:=⟨w.heap.size+1+1,0,none⟩) (show w.heap.size<=w.heap.size+1+1 by omega) (.slice h 0 i)
  have F:(I.setCell ⟨w.heap.size+1+1,0,none⟩ (.slice h 0 i)).cell? ⟨5,0,none⟩=some (.iface 391 (.pointer (some (pe 5)))):=((W.below j).c5);go_upto_region 5 with fail;generalize I.setCell ⟨w.heap.size+1+1,0,none⟩ (.slice h 0 i)=Y at j F ⊢;clear q0 g0 y K B N C O T L U n c5 D P;go_wp2_with (go_at_call 193;refine(zaD _ _ _).mono ?_;rintro e S ⟨rfl,rfl⟩);exact⟨rfl,.inr ⟨rfl,X.out⟩,j⟩
theorem placed_1 (s:Zj)(v:Wk)(l:zY)(C n d k c:Option Addr)(E z g t f:Nat)(pe:Nat->Addr)(w:World)(S:qY w pe)(W:qm s l)(hr:v.res=1)(hg:v.goes=false)(hw:In v.who 1 9999)(hp:qI v.p)(hc:In v.p.cl 1 3/\(v.p.all=false->In v.p.be 1 4))(hh:¬ Has (ZV l.ro) l.ron v.who)(hn:s.ca.n<=1048576)(hx:zG w n s.ca)(hz:qp w k l.ron l.ro)(a0:qj k l.ron t) :
  Calls Tryz.prog 250 #[.agg #[int i64 v.leg,int i64 (v.res:Int),int i64 v.who,int i64 v.p.pe,int i64 v.p.len,int i64 v.p.hei,int i64 v.p.cl,.bool v.p.all,int i64 v.p.be,.bool v.goes],.agg #[int i64 s.id,.string s.fr,.string s.dst,int i64 s.dep,int i64 s.arr,.slice C s.la.n E,.slice n s.ca.n z,int i64 s.most],.agg #[.slice d l.stn g,.slice k l.ron t,.slice c l.sen f]] w fun e w'=>((∃ (x:qN) (h:Option Addr) (i:Nat),e=.returned (.agg #[.slice d l.stn g,.slice h (l.ron+1) i,.slice c l.sen f])/\qV s v l 0 (l.addRoom x)/\w'.ownsRow w.heap.size 228 4 (.slice h (l.ron+1) i) (l.ron+1) (zw (l.addRoom x).ro (l.ron+1)))∨(e=zmK pe 6/\qV s v l 6 l))/\Below w.heap.size w w':=by
 have b4:l.ron<=60:=W.2.1.2.1;have HL:=hI W;have HX:=hI hx;have U:=hI hz;have HH:=hI hh;have HR:=hI hr;have HG:=hI hg;have O:(v.res:Int)=1:=by omega
 rw[O];clear O W hx hz hh hr hg;obtain⟨r,R,L,Q,a1⟩:=zcT w (.cells #[int i64 v.leg,int i64 1,int i64 v.who,int i64 v.p.pe,int i64 v.p.len,int i64 v.p.hei,int i64 v.p.cl,.bool v.p.all,int i64 v.p.be,.bool v.goes] 268) (.cells #[int i64 s.id,.string s.fr,.string s.dst,int i64 s.dep,int i64 s.arr,.slice C s.la.n E,.slice n s.ca.n z,int i64 s.most] 140) (.cells #[.slice d l.stn g,.slice k l.ron t,.slice c l.sen f] 145) (.cells #[.slice none 0 0,.slice none 0 0,.slice none 0 0] 145);have m:Below w.heap.size w ((((w.alloc (.cells #[int i64 v.leg,int i64 1,int i64 v.who,int i64 v.p.pe,int i64 v.p.len,int i64 v.p.hei,int i64 v.p.cl,.bool v.p.all,int i64 v.p.be,.bool v.goes] 268)).alloc (.cells #[int i64 s.id,.string s.fr,.string s.dst,int i64 s.dep,int i64 s.arr,.slice C s.la.n E,.slice n s.ca.n z,int i64 s.most] 140)).alloc (.cells #[.slice d l.stn g,.slice k l.ron t,.slice c l.sen f] 145)).alloc (.cells #[.slice none 0 0,.slice none 0 0,.slice none 0 0] 145)):=zk (zk (zk (zk bZ _) _) _) _;go_enter Tryz.func250,Tryz.ntmps250;go_upto_region 2 with fail;generalize (((w.alloc (.cells #[int i64 v.leg,int i64 1,int i64 v.who,int i64 v.p.pe,int i64 v.p.len,int i64 v.p.hei,int i64 v.p.cl,.bool v.p.all,int i64 v.p.be,.bool v.goes] 268)).alloc (.cells #[int i64 s.id,.string s.fr,.string s.dst,int i64 s.dep,int i64 s.arr,.slice C s.la.n E,.slice n s.ca.n z,int i64 s.most] 140)).alloc (.cells #[.slice d l.stn g,.slice k l.ron t,.slice c l.sen f] 145)).alloc (.cells #[.slice none 0 0,.slice none 0 0,.slice none 0 0] 145)=V at r R L Q a1 m ⊢;have y1:=za r 1 _ rfl;have a3:=za R 6 _ rfl;have a2:=za L 1 _ rfl;have a4:=za r 0 _ rfl;have a6:=za r 2 _ rfl;have a7:=za r 3 _ rfl;have a8:=za r 4 _ rfl;have a9:=za r 5 _ rfl;have b0:=za r 6 _ rfl;have b1:=za r 7 _ rfl;have b2:=za r 8 _ rfl;have b3:=za r 9 _ rfl;have a5:=y1;have Z:(v.res:Int)=1:=by have:=HR.out;omega
 go_wp2_with fail;clear y1 a3 a2 a4 a5 a6 a7 a8 a9 b0 b1 b2 b3;rw[← Z];refine(znC s v l n k z t V HL.out HR.out HG.out hw hp hc HH.out hn (HX.out.below m) (U.out.below m) a0).mono ?_;rintro e G ⟨N,B⟩;have y:=zb L B;have I:=zb Q B;have q1:=za y 1 _ rfl;have g1:=zg y 1;have A:=ze m B;have c5:=(S.below A).c6;have b5:=World.block_lt_of_cell? w _ S.c6
 rcases N with⟨x,u,rfl,M,K⟩|⟨u,rfl,M,K⟩
 ·have T:=hI M
  obtain⟨h,i,rfl,_⟩:=zp K;have J:zx G (G.setCell ⟨w.heap.size+1+1,1,none⟩ (.slice h (l.ron+1) i)) (fun b=>b=w.heap.size+1+1):=(zx.refl G (fun b=>b=w.heap.size+1+1)).set (a:=⟨w.heap.size+1+1,1,none⟩) rfl _
  have H:=(zlS y (.slice h (l.ron+1) i)).2.1;have o:=J.blk I (show ¬ w.heap.size+1+1+1=w.heap.size+1+1 by omega)
  have j:=A.setCell (p:=⟨w.heap.size+1+1,1,none⟩) (show w.heap.size<=w.heap.size+1+1 by omega) (.slice h (l.ron+1) i)
  have F:=J.own (zu K m.size) (fun q h1 h2=>by have h2:q=w.heap.size+1+1:=h2;have:=(World.ownsRow.lt K q h1).1;omega)
  have D:(G.setCell ⟨w.heap.size+1+1,1,none⟩ (.slice h (l.ron+1) i)).cell? ⟨6,0,none⟩=some (.iface 391 (.pointer (some (pe 6)))):=((S.below j).c6);go_upto_region 8 with fail;generalize G.setCell ⟨w.heap.size+1+1,1,none⟩ (.slice h (l.ron+1) i)=Y at H o j F D ⊢;clear q1 g1 J y I A K B L Q r R m c5 M;go_wp2_with fail;refine(ZD _ _).mono ?_;rintro e P ⟨rfl,X⟩;subst X;go_upto_region 12 with fail;clear D;obtain⟨l0,l1,l2⟩:=ce3 H;obtain⟨r0,r1,r2⟩:=ce3 o;obtain⟨f0,f1,f2⟩:=fe3 o;have HZ:Hid _:=zcq o (.slice d l.stn g) (.slice h (l.ron+1) i) (.slice c l.sen f);have HB:Hid (Below w.heap.size w (((P.setCell ⟨w.heap.size+1+1+1,0,none⟩ (.slice d l.stn g)).setCell ⟨w.heap.size+1+1+1,1,none⟩ (.slice h (l.ron+1) i)).setCell ⟨w.heap.size+1+1+1,2,none⟩ (.slice c l.sen f))):=((j.setCell (p:=⟨w.heap.size+1+1+1,0,none⟩) (by show _<=w.heap.size+1+1+1;omega) _).setCell (p:=⟨w.heap.size+1+1+1,1,none⟩) (by show _<=w.heap.size+1+1+1;omega) _).setCell (p:=⟨w.heap.size+1+1+1,2,none⟩) (by show _<=w.heap.size+1+1+1;omega) _
  have HO:Hid ((((P.setCell ⟨w.heap.size+1+1+1,0,none⟩ (.slice d l.stn g)).setCell ⟨w.heap.size+1+1+1,1,none⟩ (.slice h (l.ron+1) i)).setCell ⟨w.heap.size+1+1+1,2,none⟩ (.slice c l.sen f)).ownsRow w.heap.size 228 4 (.slice h (l.ron+1) i) (l.ron+1) (zw (l.addRoom x).ro (l.ron+1))):=((((zx.refl P (fun b=>b=w.heap.size+1+1+1)).set (a:=⟨w.heap.size+1+1+1,0,none⟩) rfl _).set (a:=⟨w.heap.size+1+1+1,1,none⟩) rfl _).set (a:=⟨w.heap.size+1+1+1,2,none⟩) rfl _).own F (fun q h1 h2=>by have h2:q=w.heap.size+1+1+1:=h2;subst h2;obtain⟨cs,e2⟩:=zA F _ h1;rw[o] at e2;simp at e2)
  clear H o j F;go_wp2;clear l0 l1 l2 r0 r1 r2 f0 f1 f2;obtain⟨z0,z1,z2⟩:=ce3 HZ.out;exact bodyPost_ret (v:=.agg #[.slice d l.stn g,.slice h (l.ron+1) i,.slice c l.sen f]) (by simp[results,Tryz.results250,go_sem,z0,z1,z2]) rfl ⟨.inl ⟨_,h,i,rfl,T.out,HO.out⟩,HB.out⟩
 ·have T:=hI M
  obtain⟨h,i,rfl,_⟩:=zp K;have j:=A.setCell (p:=⟨w.heap.size+1+1,1,none⟩) (show w.heap.size<=w.heap.size+1+1 by omega) (.slice h 0 i)
  have D:(G.setCell ⟨w.heap.size+1+1,1,none⟩ (.slice h 0 i)).cell? ⟨6,0,none⟩=some (.iface 391 (.pointer (some (pe 6)))):=((S.below j).c6);go_upto_region 8 with fail;generalize G.setCell ⟨w.heap.size+1+1,1,none⟩ (.slice h 0 i)=Y at j D ⊢;clear q1 g1 y I A K B L Q r R m c5 M;go_wp2_with (go_at_call 193;refine(zaD _ _ _).mono ?_;rintro e P ⟨rfl,rfl⟩);exact⟨rfl,.inr ⟨rfl,T.out⟩,j⟩
theorem placed_2 (s:Zj)(v:Wk)(l:zY)(B A d c k:Option Addr)(E D g f n:Nat)(pe:Nat->Addr)(w:World)(T:qY w pe)(X:qm s l)(hr:v.res=2)(hg:v.goes=false)(hw:In v.who 1 9999)(hp:qI v.p)(hh:¬ Has (zag l.se) l.sen v.who)(hz:qE w k l.sen l.se)(O:qj k l.sen n) :
  Calls Tryz.prog 250 #[.agg #[int i64 v.leg,int i64 (v.res:Int),int i64 v.who,int i64 v.p.pe,int i64 v.p.len,int i64 v.p.hei,int i64 v.p.cl,.bool v.p.all,int i64 v.p.be,.bool v.goes],.agg #[int i64 s.id,.string s.fr,.string s.dst,int i64 s.dep,int i64 s.arr,.slice B s.la.n E,.slice A s.ca.n D,int i64 s.most],.agg #[.slice d l.stn g,.slice c l.ron f,.slice k l.sen n]] w fun e w'=>((∃ (x:Qe) (h:Option Addr) (i:Nat),e=.returned (.agg #[.slice d l.stn g,.slice c l.ron f,.slice h (l.sen+1) i])/\qV s v l 0 (l.addSeat x)/\w'.ownsRow w.heap.size 234 2 (.slice h (l.sen+1) i) (l.sen+1) (zB (l.addSeat x).se (l.sen+1)))∨(e=zmK pe 7/\qV s v l 7 l))/\Below w.heap.size w w':=by
 have a5:l.sen<=60:=X.2.2.2.1;have HL:=hI X;have W:=hI hz;have HH:=hI hh;have HR:=hI hr;have HG:=hI hg;have P:(v.res:Int)=2:=by omega
 rw[P];clear P X hz hh hr hg;obtain⟨L,S,M,R,a0⟩:=zcT w (.cells #[int i64 v.leg,int i64 2,int i64 v.who,int i64 v.p.pe,int i64 v.p.len,int i64 v.p.hei,int i64 v.p.cl,.bool v.p.all,int i64 v.p.be,.bool v.goes] 268) (.cells #[int i64 s.id,.string s.fr,.string s.dst,int i64 s.dep,int i64 s.arr,.slice B s.la.n E,.slice A s.ca.n D,int i64 s.most] 140) (.cells #[.slice d l.stn g,.slice c l.ron f,.slice k l.sen n] 145) (.cells #[.slice none 0 0,.slice none 0 0,.slice none 0 0] 145);have o:Below w.heap.size w ((((w.alloc (.cells #[int i64 v.leg,int i64 2,int i64 v.who,int i64 v.p.pe,int i64 v.p.len,int i64 v.p.hei,int i64 v.p.cl,.bool v.p.all,int i64 v.p.be,.bool v.goes] 268)).alloc (.cells #[int i64 s.id,.string s.fr,.string s.dst,int i64 s.dep,int i64 s.arr,.slice B s.la.n E,.slice A s.ca.n D,int i64 s.most] 140)).alloc (.cells #[.slice d l.stn g,.slice c l.ron f,.slice k l.sen n] 145)).alloc (.cells #[.slice none 0 0,.slice none 0 0,.slice none 0 0] 145)):=zk (zk (zk (zk bZ _) _) _) _;go_enter Tryz.func250,Tryz.ntmps250;go_upto_region 2 with fail;generalize (((w.alloc (.cells #[int i64 v.leg,int i64 2,int i64 v.who,int i64 v.p.pe,int i64 v.p.len,int i64 v.p.hei,int i64 v.p.cl,.bool v.p.all,int i64 v.p.be,.bool v.goes] 268)).alloc (.cells #[int i64 s.id,.string s.fr,.string s.dst,int i64 s.dep,int i64 s.arr,.slice B s.la.n E,.slice A s.ca.n D,int i64 s.most] 140)).alloc (.cells #[.slice d l.stn g,.slice c l.ron f,.slice k l.sen n] 145)).alloc (.cells #[.slice none 0 0,.slice none 0 0,.slice none 0 0] 145)=V at L S M R a0 o ⊢;have y1:=za L 1 _ rfl;have a2:=za S 7 _ rfl;have a1:=za M 2 _ rfl;have a3:=za L 2 _ rfl;have a4:=za L 3 _ rfl;have a6:(v.res:Int)=2:=by have:=HR.out;omega
 go_wp2_with fail;clear y1 a2 a1 a3 a4;refine(ziT s.most k l.sen n l.se v.who v.p.pe V (by omega) O.1 (W.out.below o) O.2.2).mono ?_
 rintro e G ⟨z,y⟩;have r:=zb M y;have I:=zb R y;have q2:=za r 2 _ rfl;have g2:=zg r 2;have t:=ze o y;have c5:=(T.below t).c7;have a7:=World.block_lt_of_cell? w _ T.c7
 rcases seatW HL.out HR.out HG.out hw hp.1 HH.out z with⟨u,rfl,N,K⟩|⟨u,rfl,N,K⟩
 ·have U:=hI N
  obtain⟨h,i,rfl,_⟩:=zp K;have J:zx G (G.setCell ⟨w.heap.size+1+1,2,none⟩ (.slice h (l.sen+1) i)) (fun b=>b=w.heap.size+1+1):=(zx.refl G (fun b=>b=w.heap.size+1+1)).set (a:=⟨w.heap.size+1+1,2,none⟩) rfl _
  have H:=(zlS r (.slice h (l.sen+1) i)).2.2;have m:=J.blk I (show ¬ w.heap.size+1+1+1=w.heap.size+1+1 by omega)
  have j:=t.setCell (p:=⟨w.heap.size+1+1,2,none⟩) (show w.heap.size<=w.heap.size+1+1 by omega) (.slice h (l.sen+1) i)
  have F:=J.own (zu K o.size) (fun q h1 h2=>by have h2:q=w.heap.size+1+1:=h2;have:=(World.ownsRow.lt K q h1).1;omega)
  have C:(G.setCell ⟨w.heap.size+1+1,2,none⟩ (.slice h (l.sen+1) i)).cell? ⟨7,0,none⟩=some (.iface 391 (.pointer (some (pe 7)))):=((T.below j).c7);go_upto_region 11 with fail;generalize G.setCell ⟨w.heap.size+1+1,2,none⟩ (.slice h (l.sen+1) i)=Y at H m j F C ⊢;clear q2 g2 J r I t K y M R L S o c5 z N;go_wp2_with fail;refine(ZD _ _).mono ?_;rintro e Q ⟨rfl,Z⟩;subst Z;go_upto_region 12 with fail;clear C;obtain⟨l0,l1,l2⟩:=ce3 H;obtain⟨r0,r1,r2⟩:=ce3 m;obtain⟨f0,f1,f2⟩:=fe3 m;have HZ:Hid _:=zcq m (.slice d l.stn g) (.slice c l.ron f) (.slice h (l.sen+1) i);have HB:Hid (Below w.heap.size w (((Q.setCell ⟨w.heap.size+1+1+1,0,none⟩ (.slice d l.stn g)).setCell ⟨w.heap.size+1+1+1,1,none⟩ (.slice c l.ron f)).setCell ⟨w.heap.size+1+1+1,2,none⟩ (.slice h (l.sen+1) i))):=((j.setCell (p:=⟨w.heap.size+1+1+1,0,none⟩) (by show _<=w.heap.size+1+1+1;omega) _).setCell (p:=⟨w.heap.size+1+1+1,1,none⟩) (by show _<=w.heap.size+1+1+1;omega) _).setCell (p:=⟨w.heap.size+1+1+1,2,none⟩) (by show _<=w.heap.size+1+1+1;omega) _
  have HO:Hid ((((Q.setCell ⟨w.heap.size+1+1+1,0,none⟩ (.slice d l.stn g)).setCell ⟨w.heap.size+1+1+1,1,none⟩ (.slice c l.ron f)).setCell ⟨w.heap.size+1+1+1,2,none⟩ (.slice h (l.sen+1) i)).ownsRow w.heap.size 234 2 (.slice h (l.sen+1) i) (l.sen+1) (zB (l.addSeat ⟨v.who,v.p.pe⟩).se (l.sen+1))):=((((zx.refl Q (fun b=>b=w.heap.size+1+1+1)).set (a:=⟨w.heap.size+1+1+1,0,none⟩) rfl _).set (a:=⟨w.heap.size+1+1+1,1,none⟩) rfl _).set (a:=⟨w.heap.size+1+1+1,2,none⟩) rfl _).own F (fun q h1 h2=>by have h2:q=w.heap.size+1+1+1:=h2;subst h2;obtain⟨cs,e2⟩:=zA F _ h1;rw[m] at e2;simp at e2)
  clear H m j F;go_wp2;clear l0 l1 l2 r0 r1 r2 f0 f1 f2;obtain⟨z0,z1,z2⟩:=ce3 HZ.out;exact bodyPost_ret (v:=.agg #[.slice d l.stn g,.slice c l.ron f,.slice h (l.sen+1) i]) (by simp[results,Tryz.results250,go_sem,z0,z1,z2]) rfl ⟨.inl ⟨_,h,i,rfl,U.out,HO.out⟩,HB.out⟩
 ·have U:=hI N
  obtain⟨h,i,rfl,_⟩:=zp K;have j:=t.setCell (p:=⟨w.heap.size+1+1,2,none⟩) (show w.heap.size<=w.heap.size+1+1 by omega) (.slice h 0 i)
  have C:(G.setCell ⟨w.heap.size+1+1,2,none⟩ (.slice h 0 i)).cell? ⟨7,0,none⟩=some (.iface 391 (.pointer (some (pe 7)))):=((T.below j).c7);go_upto_region 11 with fail;generalize G.setCell ⟨w.heap.size+1+1,2,none⟩ (.slice h 0 i)=Y at j C ⊢;clear q2 g2 r I t K y M R L S o c5 z N;go_wp2_with (go_at_call 193;refine(zaD _ _ _).mono ?_;rintro e Q ⟨rfl,rfl⟩);exact⟨rfl,.inr ⟨rfl,U.out⟩,j⟩
theorem Zk.apt_goes {o:Off}(h:Zk o){m:Nat}(t:m<o.bkn)(s:zez (o.bk m)){p:Qh}(b:p.len=(o.bk m).len)(f:p.cl=(o.bk m).cl){v:Wk}(u:v ∈ Zh true (o.bk m).who p (o.bk m).lg (o.bk m).lgn):Apt o o.ld v:=by
 have g:zaI p.len p.cl 0=true->0<p.len:=by simp[zaI]
 have j:zaI p.len p.cl 1=true->0<p.cl:=by simp[zaI]
 obtain⟨⟨i,q,e⟩,hr,n,w,_,a⟩:=zbb u;refine⟨hr,fun k r l=>?_⟩
 rw[if_pos n,w];obtain⟨h1,h2,h3⟩:=h.here r t ⟨s,i,q,by rw[l,e]⟩
 unfold zfn
 by_cases c:v.res=0
 ·rw[if_pos c]
  rw[c] at a;exact h2 (by rw[← b];exact g a)
 ·rw[if_neg c]
  by_cases d:v.res=1
  ·rw[if_pos d]
   rw[d] at a;exact h3 (by rw[← f];exact j a)
  ·rw[if_neg d]
   exact h1
theorem Zk.apt_comes {o:Off}(h:Zk o){x:Int}(e:∀ i,i<o.bkn->(o.bk i).who≠x){p:Qh}{F:Nat->Int}{n:Nat}{v:Wk}(c:v ∈ Zh false x p F n):Apt o o.ld v:=by
 obtain⟨_,hr,a,d,_,_⟩:=zbb c;refine⟨hr,fun k b _=>?_⟩
 rw[if_neg (by rw[a];decide),d]
 obtain⟨h1,h2,h3⟩:=h.fresh e b;unfold zfn
 split
 ·exact h2
 ·split
  ·exact h3
  ·exact h1
theorem zft (b:ql)(f:Option Addr)(g:Nat)(w:World) :
  Calls Tryz.prog 86 #[.agg #[int i64 b.name,int i64 b.who,.string b.own,.slice f b.lgn g,int i64 b.pe,int i64 b.len,int i64 b.hei,int i64 b.cl,.bool b.all,int i64 b.be,int i64 b.state,int i64 b.unt,int i64 b.price]] w fun e w'=>e=.returned (.bool (decide (zez b)))/\Below w.heap.size w w':=by
 obtain⟨c,i⟩:∃ c,c=decide (zez b):=⟨_,rfl⟩;rw[← i];have d:=hI i;clear i
 by_cases h1:b.state=1
 ·have j:(b.state == 1)=true:=by simpa using h1
  have a:Hid (c=true):=by rw[d.out];exact decide_eq_true (.inl h1)
  clear h1;go_enter Tryz.func86,Tryz.ntmps86;go_wp2;go_ret;exact⟨by rw[a.out];rfl,zk bZ _⟩
 ·have j:(b.state == 1)=false:=by simpa using h1
  by_cases h2:b.state=2
  ·have k:(b.state == 2)=true:=by simpa using h2
   have a:Hid (c=true):=by rw[d.out];exact decide_eq_true (.inr h2)
   clear h1 h2;go_enter Tryz.func86,Tryz.ntmps86;go_wp2;go_ret;exact⟨by rw[a.out];rfl,zk bZ _⟩
  ·have k:(b.state == 2)=false:=by simpa using h2
   have a:Hid (c=false):=by rw[d.out];exact decide_eq_false (fun h=>by rcases h with h|h;exact h1 h;exact h2 h)
   clear h1 h2;go_enter Tryz.func86,Tryz.ntmps86;go_wp2;go_ret;exact⟨by rw[a.out];rfl,zk bZ _⟩
theorem zcU {x:zY}{b:ql}{k:Nat}:zeA x b (k+1)↔zeA x b k∨((x.se k).who=b.who/\(x.se k).many=b.pe) :=
 ⟨fun ⟨j,a,h⟩=>if e:j=k then .inr (by subst e;exact h) else .inl ⟨j,by omega,h⟩,fun h=>by rcases h with⟨j,a,h⟩|h;exact⟨j,by omega,h⟩;exact⟨k,by omega,h⟩⟩
theorem zbF {x:zY}{b:ql}{k:Nat}:zeB x b (k+1)↔zeB x b k∨((x.st k).who=b.who/\(x.st k).len=b.len/\(x.st k).hei=b.hei) :=
 ⟨fun ⟨j,a,h⟩=>if e:j=k then .inr (by subst e;exact h) else .inl ⟨j,by omega,h⟩,fun h=>by rcases h with⟨j,a,h⟩|h;exact⟨j,by omega,h⟩;exact⟨k,by omega,h⟩⟩
theorem zaq {s:Zj}{x:zY}{b:ql}{k:Nat}:zdt s x b (k+1)↔zdt s x b k∨zmD s b (x.ro k) :=
 ⟨fun ⟨j,a,h⟩=>if e:j=k then .inr (by subst e;exact h) else .inl ⟨j,by omega,h⟩,fun h=>by rcases h with⟨j,a,h⟩|h;exact⟨j,by omega,h⟩;exact⟨k,by omega,h⟩⟩
theorem zkM (s:Zj)(la ca:Option Addr)(lc cc:Nat)(x:zY)(G E F:Option Addr)(U S T:Nat)(b:ql)(P:Option Addr)(R:Nat)(w:World)
  (d6:x.stn<=1048576) (d7:x.ron<=1048576) (d8:x.sen<=1048576) (a2:zG w ca s.ca) (a5:qw w G x.stn x.st) (a3:qp w E x.ron x.ro) (a4:qE w F x.sen x.se)
  (L:∀ j,j<x.ron->0<=(x.ro j).cab/\(x.ro j).cab<s.ca.n) :
  Calls Tryz.prog 88 #[.agg #[int i64 s.id,.string s.fr,.string s.dst,int i64 s.dep,int i64 s.arr,.slice la s.la.n lc,.slice ca s.ca.n cc,int i64 s.most],.agg #[.slice G x.stn U,.slice E x.ron S,.slice F x.sen T],.agg #[int i64 b.name,int i64 b.who,.string b.own,.slice P b.lgn R,int i64 b.pe,int i64 b.len,int i64 b.hei,int i64 b.cl,.bool b.all,int i64 b.be,int i64 b.state,int i64 b.unt,int i64 b.price]] w fun e w'=>qX (zbX s x b) e/\Below w.heap.size w w':=by
 have a8:=hI a2;have b2:=hI a5;have b0:=hI a3;have b1:=hI a4;have a9:=hI L;clear a2 a5 a3 a4 L;go_enter Tryz.func88,Tryz.ntmps88;go_wp2;obtain⟨W,Z⟩:∃ W,W=(((w.alloc (.cells #[int i64 s.id,.string s.fr,.string s.dst,int i64 s.dep,int i64 s.arr,.slice la s.la.n lc,.slice ca s.ca.n cc,int i64 s.most] 140)).alloc (.cells #[.slice G x.stn U,.slice E x.ron S,.slice F x.sen T] 145)).alloc (.cells #[int i64 b.name,int i64 b.who,.string b.own,.slice P b.lgn R,int i64 b.pe,int i64 b.len,int i64 b.hei,int i64 b.cl,.bool b.all,int i64 b.be,int i64 b.state,int i64 b.unt,int i64 b.price] 150)).alloc (.cells #[int i64 b.pe,int i64 b.len,int i64 b.hei,int i64 b.cl,.bool b.all,int i64 b.be] 45):=⟨_,rfl⟩;have bS:W.heap[w.heap.size]?=some (.cells #[int i64 s.id,.string s.fr,.string s.dst,int i64 s.dep,int i64 s.arr,.slice la s.la.n lc,.slice ca s.ca.n cc,int i64 s.most] 140 (0,0)):=by rw[Z];exact zd (zd (zd (heap_alloc_new w _) _) _) _
 have bL:W.heap[w.heap.size+1]?=some (.cells #[.slice G x.stn U,.slice E x.ron S,.slice F x.sen T] 145 (0,0)):=by rw[Z];exact zd (zd (by simpa using heap_alloc_new (w.alloc _) _) _) _
 have bB:W.heap[w.heap.size+1+1]?=some (.cells #[int i64 b.name,int i64 b.who,.string b.own,.slice P b.lgn R,int i64 b.pe,int i64 b.len,int i64 b.hei,int i64 b.cl,.bool b.all,int i64 b.be,int i64 b.state,int i64 b.unt,int i64 b.price] 150 (0,0)):=by rw[Z];exact zd (by simpa using heap_alloc_new ((w.alloc _).alloc _) _) _
 have J:W.heap[w.heap.size+1+1+1]?=some (.cells #[int i64 b.pe,int i64 b.len,int i64 b.hei,int i64 b.cl,.bool b.all,int i64 b.be] 45 (0,0)):=by rw[Z];simpa using heap_alloc_new (((w.alloc _).alloc _).alloc _) _
 have H:Below w.heap.size w W:=by rw[Z];exact zk (zk (zk (zk bZ _) _) _) _
 rw[← Z];clear Z;have M:∀ y:zY,¬ zeA y b 0:=fun y ⟨j,hj,_⟩=>absurd hj (Nat.not_lt_zero _)
 go_loopw [8,10,22] (fun v _ i wr=>∃ (k:Nat) (c:Bool),k<=x.sen/\i=int i64 k/\v=.bool c/\(c=true↔zeA x b k)/\Below W.heap.size W wr) (fun _ _ i _=>x.sen - (intOf i).toNat)
 case atStart=>exact⟨0,false,Nat.zero_le _,rfl,rfl,⟨fun h=>(by cases h),fun h=>absurd h (M x)⟩,bZ⟩
 case round =>
  obtain⟨k,c,hk,rfl,rfl,m,a⟩:=hrel;have HC:=hI m;clear m;have Q:∀ o,(wr.alloc o).cell? ⟨w.heap.size+1+1,1,none⟩=some (int i64 b.who):=fun o=>za (zd (zb bB a) o) 1 _ rfl
  have b5:∀ o,(wr.alloc o).cell? ⟨w.heap.size+1+1+1,0,none⟩=some (int i64 b.pe):=fun o=>za (zd (zb J a) o) 0 _ rfl
  by_cases hlt:k<x.sen
  ·obtain⟨u,A,rfl,D,K⟩:=b1.out k hlt
   have g:=World.block_lt_of_cell? w _ D;have d1:=((ze H a).cell (p:=⟨u,A+k*2,none⟩) g).trans D;have d2:=((ze H a).cell (p:=⟨u,A+k*2+1,none⟩) g).trans K;clear D K
   cases c with
   | true =>
    go_wp2;go_roundw
    case rel=>exact⟨k+1,true,by omega,by go_num,rfl,⟨fun _=>zcU.2 (.inl (HC.out.1 rfl)),fun _=>rfl⟩,zk a _⟩
    case measure=>simp[intOf];omega
   | false =>
    have l:Hid (¬ zeA x b k):=fun h=>by have:=HC.out.2 h;cases this
    clear HC
    by_cases e1:(x.se k).who=b.who
    ·by_cases e2:(x.se k).many=b.pe
     ·have O:Hid (zeA x b (k+1)):=zcU.2 (.inr ⟨e1,e2⟩)
      go_wp2;go_roundw
      case rel=>exact⟨k+1,true,by omega,by go_num,rfl,⟨fun _=>O.out,fun _=>rfl⟩,zk a _⟩
      case measure=>simp[intOf];omega
     ·have d:Hid (¬ zeA x b (k+1)):=fun h=>by rcases zcU.1 h with h|h;exact l.out h;exact e2 h.2
      go_wp2;go_roundw
      case rel=>exact⟨k+1,false,by omega,by go_num,rfl,⟨fun h=>(by cases h),fun h=>absurd h d.out⟩,zk a _⟩
      case measure=>simp[intOf];omega
    ·have d:Hid (¬ zeA x b (k+1)):=fun h=>by rcases zcU.1 h with h|h;exact l.out h;exact e1 h.1
     go_wp2;go_roundw
     case rel=>exact⟨k+1,false,by omega,by go_num,rfl,⟨fun h=>(by cases h),fun h=>absurd h d.out⟩,zk a _⟩
     case measure=>simp[intOf];omega
  ·obtain rfl:k=x.sen:=by omega
   clear Q b5;have a6:=hI a;have N:=hI H;have b3:=za (zb bL a) 0 _ rfl;have a0:=za (zb J a) 1 _ rfl;clear a H hk hlt M;obtain⟨I,r⟩:∃ z,z=(b.len == 0):=⟨_,rfl⟩;have Y:(b.len == 0)=I:=r.symm;have n:Hid (I=true↔b.len=0):=by show I=true↔b.len=0;rw[r,beq_iff_eq]
   clear r;go_wp2;go_loopw [11,13,43] (fun v _ i wq=>∃ (k:Nat) (c:Bool),k<=x.stn/\i=int i64 k/\v=.bool c/\(c=true↔b.len=0∨zeB x b k)/\Below W.heap.size W wq) (fun _ _ i _=>x.stn - (intOf i).toNat)
   case atStart=>exact⟨0,I,Nat.zero_le _,rfl,rfl,⟨fun h=>.inl (n.out.1 h),fun h=>by rcases h with h|⟨j,hj,_⟩;exact n.out.2 h;exact absurd hj (Nat.not_lt_zero _)⟩,a6.out⟩
   case round =>
    obtain⟨k,c2,hk,rfl,rfl,m,a⟩:=hrel;have B:=hI m;clear m b3 a0 Y n
    by_cases hlt:k<x.stn
    ·obtain⟨u,A,rfl,D,K,g3,g4⟩:=b2.out k hlt
     have g:=World.block_lt_of_cell? w _ D;have f:=ze N.out a;have d1:=(f.cell (p:=⟨u,A+k*4,none⟩) g).trans D;have d2:=(f.cell (p:=⟨u,A+k*4+1,none⟩) g).trans K;have d3:=(f.cell (p:=⟨u,A+k*4+2,none⟩) g).trans g3;have d4:=(f.cell (p:=⟨u,A+k*4+3,none⟩) g).trans g4;have Q:∀ o,(wr.alloc o).cell? ⟨w.heap.size+1+1,1,none⟩=some (int i64 b.who):=fun o=>za (zd (zb bB a) o) 1 _ rfl
     have a0:∀ o,(wr.alloc o).cell? ⟨w.heap.size+1+1+1,1,none⟩=some (int i64 b.len):=fun o=>za (zd (zb J a) o) 1 _ rfl
     have c0:∀ o,(wr.alloc o).cell? ⟨w.heap.size+1+1+1,2,none⟩=some (int i64 b.hei):=fun o=>za (zd (zb J a) o) 2 _ rfl
     clear D K g3 g4 f
     cases c2 with
     | true =>
      go_wp2;go_roundw
      case rel=>exact⟨k+1,true,by omega,by go_num,rfl,⟨fun _=>(B.out.1 rfl).imp id (fun h=>zbF.2 (.inl h)),fun _=>rfl⟩,zk a _⟩
      case measure=>simp[intOf];omega
     | false =>
      have l:Hid (¬ (b.len=0∨zeB x b k)):=fun h=>by have:=B.out.2 h;cases this
      clear B
      by_cases e1:(x.st k).who=b.who
      ·have V:((x.st k).who == b.who)=true:=by simpa using e1
       by_cases e2:(x.st k).len=b.len
       ·have t:((x.st k).len == b.len)=true:=by simpa using e2
        by_cases e3:(x.st k).hei=b.hei
        ·have X:((x.st k).hei == b.hei)=true:=by simpa using e3
         have O:Hid (b.len=0∨zeB x b (k+1)):=.inr (zbF.2 (.inr ⟨e1,e2,e3⟩));clear e1 e2 e3;go_wp2;go_roundw
         case rel=>exact⟨k+1,true,by omega,by go_num,rfl,⟨fun _=>O.out,fun _=>rfl⟩,zk a _⟩
         case measure=>simp[intOf];omega
        ·have X:((x.st k).hei == b.hei)=false:=by simpa using e3
         have d:Hid (¬ (b.len=0∨zeB x b (k+1))):=fun h=>by rcases h with h|h;exact l.out (.inl h);rcases zbF.1 h with h|h;exact l.out (.inr h);exact e3 h.2.2
         clear e1 e2 e3;go_wp2;go_roundw
         case rel=>exact⟨k+1,false,by omega,by go_num,rfl,⟨fun h=>(by cases h),fun h=>absurd h d.out⟩,zk a _⟩
         case measure=>simp[intOf];omega
       ·have t:((x.st k).len == b.len)=false:=by simpa using e2
        have d:Hid (¬ (b.len=0∨zeB x b (k+1))):=fun h=>by rcases h with h|h;exact l.out (.inl h);rcases zbF.1 h with h|h;exact l.out (.inr h);exact e2 h.2.1
        clear e1 e2;go_wp2;go_roundw
        case rel=>exact⟨k+1,false,by omega,by go_num,rfl,⟨fun h=>(by cases h),fun h=>absurd h d.out⟩,zk a _⟩
        case measure=>simp[intOf];omega
      ·have V:((x.st k).who == b.who)=false:=by simpa using e1
       have d:Hid (¬ (b.len=0∨zeB x b (k+1))):=fun h=>by rcases h with h|h;exact l.out (.inl h);rcases zbF.1 h with h|h;exact l.out (.inr h);exact e1 h.1
       clear e1;go_wp2;go_roundw
       case rel=>exact⟨k+1,false,by omega,by go_num,rfl,⟨fun h=>(by cases h),fun h=>absurd h d.out⟩,zk a _⟩
       case measure=>simp[intOf];omega
    ·obtain rfl:k=x.stn:=by omega
     have a7:=hI a;have b4:=za (zb bL a) 1 _ rfl;have a1:=za (zb J a) 3 _ rfl;clear a hk hlt;obtain⟨I,r⟩:∃ z,z=(b.cl == 0):=⟨_,rfl⟩;have Y:(b.cl == 0)=I:=r.symm;have n:Hid (I=true↔b.cl=0):=by show I=true↔b.cl=0;rw[r,beq_iff_eq]
     clear r;go_wp2;go_loopw [14,16,76] (fun v _ i wq=>∃ (k:Nat) (c:Bool),k<=x.ron/\i=int i64 k/\v=.bool c/\(c=true↔b.cl=0∨zdt s x b k)/\Below W.heap.size W wq) (fun _ _ i _=>x.ron - (intOf i).toNat)
     case atStart=>exact⟨0,I,Nat.zero_le _,rfl,rfl,⟨fun h=>.inl (n.out.1 h),fun h=>by rcases h with h|⟨j,hj,_⟩;exact n.out.2 h;exact absurd hj (Nat.not_lt_zero _)⟩,a7.out⟩
     case round =>
      obtain⟨k,c3,hk,rfl,rfl,m,a⟩:=hrel;have C:=hI m;clear m b4 a1 Y n
      by_cases hlt:k<x.ron
      ·obtain⟨u,A,rfl,D,K,g3,g4⟩:=b0.out k hlt
       have g:=World.block_lt_of_cell? w _ D;have f:=ze N.out a;have d1:=(f.cell (p:=⟨u,A+k*4,none⟩) g).trans D;have d2:=(f.cell (p:=⟨u,A+k*4+1,none⟩) g).trans K;have d3:=(f.cell (p:=⟨u,A+k*4+2,none⟩) g).trans g3;have d4:=(f.cell (p:=⟨u,A+k*4+3,none⟩) g).trans g4;obtain⟨i0,i1⟩:=a9.out k hlt;obtain⟨cb,co,rfl,k1,k2⟩:=a8.out (x.ro k).cab.toNat (by omega)
       have b9:=World.block_lt_of_cell? w _ k1;have c1:∀ o,(wr.alloc o).cell? ⟨cb,co+(x.ro k).cab.toNat*2,none⟩=some (int i64 (s.ca.A (x.ro k).cab.toNat)):=fun o=>(((f.alloc f.size o).cell (p:=⟨cb,co+(x.ro k).cab.toNat*2,none⟩) b9)).trans k1
       have Q:∀ o,(wr.alloc o).cell? ⟨w.heap.size+1+1,1,none⟩=some (int i64 b.who):=fun o=>za (zd (zb bB a) o) 1 _ rfl
       have a1:∀ o,(wr.alloc o).cell? ⟨w.heap.size+1+1+1,3,none⟩=some (int i64 b.cl):=fun o=>za (zd (zb J a) o) 3 _ rfl
       obtain⟨q,hq⟩:∃ q,q=b.all:=⟨_,rfl⟩;have HQ:=hI hq;have c9:∀ o,(wr.alloc o).cell? ⟨w.heap.size+1+1+1,4,none⟩=some (.bool q):=fun o=>by rw[hq];exact za (zd (zb J a) o) 4 _ rfl
       clear hq;have d0:∀ o,(wr.alloc o).cell? ⟨w.heap.size+1+1+1,5,none⟩=some (int i64 b.be):=fun o=>za (zd (zb J a) o) 5 _ rfl
       have d5:∀ o,(wr.alloc o).cell? ⟨w.heap.size,6,none⟩=some (.slice (some ⟨cb,co,none⟩) s.ca.n cc):=fun o=>za (zd (zb bS a) o) 6 _ rfl
       clear D K g3 g4 k1 k2 f
       cases c3 with
       | true =>
        go_wp2;go_quiet (fail);go_wp2;go_roundw
        case rel=>exact⟨k+1,true,by omega,by go_num,rfl,⟨fun _=>(C.out.1 (by simp)).imp id (fun h=>zaq.2 (.inl h)),fun _=>rfl⟩,dN (zk a _) _⟩
        case measure=>simp[intOf];omega
       | false =>
        have l:Hid (¬ (b.cl=0∨zdt s x b k)):=fun h=>by have:=C.out.2 h;cases this
        clear C
        by_cases e1:(x.ro k).who=b.who
        ·have V:((x.ro k).who == b.who)=true:=by simpa using e1
         by_cases e2:(x.ro k).all=q
         ·have t:((x.ro k).all == q)=true:=by simpa using e2
          by_cases e3:s.ca.A (x.ro k).cab.toNat=b.cl
          ·have X:(s.ca.A (x.ro k).cab.toNat == b.cl)=true:=by simpa using e3
           by_cases e4:q=true
           ·have b6:(x.ro k).all=true:=e2.trans e4
            have O:Hid (b.cl=0∨zdt s x b (k+1)):=.inr (zaq.2 (.inr ⟨e1,e2.trans HQ.out,e3,.inl (HQ.out.symm.trans e4)⟩));clear e1 e2 e3 t;go_wp2;go_quiet (fail);go_wp2;go_roundw
            case rel=>exact⟨k+1,true,by omega,by go_num,rfl,⟨fun _=>O.out,fun _=>rfl⟩,dN (zk a _) _⟩
            case measure=>simp[intOf];omega
           ·have b7:q=false:=by cases h:q;rfl;exact absurd h e4
            have b6:(x.ro k).all=false:=e2.trans b7
            by_cases e5:(x.ro k).many=b.be
            ·have b8:((x.ro k).many == b.be)=true:=by simpa using e5
             have O:Hid (b.cl=0∨zdt s x b (k+1)):=.inr (zaq.2 (.inr ⟨e1,e2.trans HQ.out,e3,.inr e5⟩));clear e1 e2 e3 e4 e5 t;go_wp2;go_quiet (fail);go_wp2;go_roundw
             case rel=>exact⟨k+1,true,by omega,by go_num,rfl,⟨fun _=>O.out,fun _=>rfl⟩,dN (zk a _) _⟩
             case measure=>simp[intOf];omega
            ·have b8:((x.ro k).many == b.be)=false:=by simpa using e5
             have d:Hid (¬ (b.cl=0∨zdt s x b (k+1))):=fun h=>by rcases h with h|h;exact l.out (.inl h);rcases zaq.1 h with h|h;exact l.out (.inr h);exact(by rcases h.2.2.2 with h|h;exact e4 (HQ.out.trans h);exact e5 h)
             clear e1 e2 e3 e4 e5 t;go_wp2;go_quiet (fail);go_wp2;go_roundw
             case rel=>exact⟨k+1,false,by omega,by go_num,rfl,⟨fun h=>(by cases h),fun h=>absurd h d.out⟩,dN (zk a _) _⟩
             case measure=>simp[intOf];omega
          ·have X:(s.ca.A (x.ro k).cab.toNat == b.cl)=false:=by simpa using e3
           have d:Hid (¬ (b.cl=0∨zdt s x b (k+1))):=fun h=>by rcases h with h|h;exact l.out (.inl h);rcases zaq.1 h with h|h;exact l.out (.inr h);exact e3 h.2.2.1
           clear e1 e2 e3;go_wp2;go_quiet (fail);go_wp2;go_roundw
           case rel=>exact⟨k+1,false,by omega,by go_num,rfl,⟨fun h=>(by cases h),fun h=>absurd h d.out⟩,dN (zk a _) _⟩
           case measure=>simp[intOf];omega
         ·have t:((x.ro k).all == q)=false:=by simpa using e2
          have d:Hid (¬ (b.cl=0∨zdt s x b (k+1))):=fun h=>by rcases h with h|h;exact l.out (.inl h);rcases zaq.1 h with h|h;exact l.out (.inr h);exact e2 (h.2.1.trans HQ.out.symm)
          clear e1 e2;go_wp2;go_quiet (fail);go_wp2;go_roundw
          case rel=>exact⟨k+1,false,by omega,by go_num,rfl,⟨fun h=>(by cases h),fun h=>absurd h d.out⟩,dN (zk a _) _⟩
          case measure=>simp[intOf];omega
        ·have V:((x.ro k).who == b.who)=false:=by simpa using e1
         have d:Hid (¬ (b.cl=0∨zdt s x b (k+1))):=fun h=>by rcases h with h|h;exact l.out (.inl h);rcases zaq.1 h with h|h;exact l.out (.inr h);exact e1 h.1
         clear e1;go_wp2;go_quiet (fail);go_wp2;go_roundw
         case rel=>exact⟨k+1,false,by omega,by go_num,rfl,⟨fun h=>(by cases h),fun h=>absurd h d.out⟩,dN (zk a _) _⟩
         case measure=>simp[intOf];omega
      ·obtain rfl:k=x.ron:=by omega
       have HF:=hI (ze N.out a);have HS:Hid (zbX s x b↔c=true/\c2=true/\c3=true):=by
        show zbX s x b↔c=true/\c2=true/\c3=true
        unfold zbX;rw[HC.out,B.out,C.out]
       clear a hk hlt HC B C
       cases c with
       | false =>
        go_wp2;go_ret;exact⟨zl (fun h=>by have h:=HS.out.1 h;simp at h),HF.out⟩
       | true =>
        cases c2 with
        | false =>
         go_wp2;go_ret;exact⟨zl (fun h=>by have h:=HS.out.1 h;simp at h),HF.out⟩
        | true =>
         cases c3 with
         | false =>
          go_wp2;go_ret;exact⟨zl (fun h=>by have h:=HS.out.1 h;simp at h),HF.out⟩
         | true =>
          go_wp2;go_ret;exact⟨zR (HS.out.2 (by simp)),HF.out⟩
def zbG (b:ql)(y:OpD):Prop:=¬ zez b∨(y.kind=4/\b.state≠1)∨(y.kind=8/\(b.state≠1∨y.now<=b.unt))
def zcV (R m:Nat)(x:Off)(y:OpD)(code:Int):Prop:=(R<=m->code=3)/\(m<R->zbG (x.bk m) y->code=4)/\(m<R->¬ zbG (x.bk m) y->code=0)
theorem zbH (g f d o:Option Addr)(N M R l j i r m:Nat)(x:Off)(y:OpD)(w:World)(hR:R<=1048576)(b5:m<=1048576)(a8:y.name=(m:Int)+1)(X:qO w d R x.bk) :
  Calls Tryz.prog 163 #[.agg #[.slice g N l,.slice f M j,.slice d R i],.agg #[int i64 y.kind,.string y.own,int i64 y.name,.slice o y.lgn r,int i64 y.pe,int i64 y.len,int i64 y.hei,int i64 y.cl,.bool y.all,int i64 y.be,int i64 y.unt,int i64 y.now]] w fun e w'=>(∃ code:Int,e=.returned (int i64 code)/\zcV R m x y code)/\Below w.heap.size w w':=by
 have a2:=hI X;clear X;rw[a8];have a:Below w.heap.size w ((w.alloc (.cells #[.slice g N l,.slice f M j,.slice d R i] 38)).alloc (.cells #[int i64 y.kind,.string y.own,int i64 ((m:Int)+1),.slice o y.lgn r,int i64 y.pe,int i64 y.len,int i64 y.hei,int i64 y.cl,.bool y.all,int i64 y.be,int i64 y.unt,int i64 y.now] 47)):=zk (zk bZ _) _;have S:((w.alloc (.cells #[.slice g N l,.slice f M j,.slice d R i] 38)).alloc (.cells #[int i64 y.kind,.string y.own,int i64 ((m:Int)+1),.slice o y.lgn r,int i64 y.pe,int i64 y.len,int i64 y.hei,int i64 y.cl,.bool y.all,int i64 y.be,int i64 y.unt,int i64 y.now] 47)).heap[w.heap.size]?=some (.cells #[.slice g N l,.slice f M j,.slice d R i] 38 (0,0)):=zd (heap_alloc_new w _) _;have I:((w.alloc (.cells #[.slice g N l,.slice f M j,.slice d R i] 38)).alloc (.cells #[int i64 y.kind,.string y.own,int i64 ((m:Int)+1),.slice o y.lgn r,int i64 y.pe,int i64 y.len,int i64 y.hei,int i64 y.cl,.bool y.all,int i64 y.be,int i64 y.unt,int i64 y.now] 47)).heap[w.heap.size+1]?=some (.cells #[int i64 y.kind,.string y.own,int i64 ((m:Int)+1),.slice o y.lgn r,int i64 y.pe,int i64 y.len,int i64 y.hei,int i64 y.cl,.bool y.all,int i64 y.be,int i64 y.unt,int i64 y.now] 47 (0,0)):=by simpa using heap_alloc_new (w.alloc (.cells #[.slice g N l,.slice f M j,.slice d R i] 38)) _
 by_cases hlt:m<R
 case neg =>
  have HC:zcV R m x y 3:=⟨fun _=>rfl,fun h=>absurd h hlt,fun h=>absurd h hlt⟩
  have d0:decide ((R:Int)<(m:Int)+1)=true:=decide_eq_true (by omega)
  have d1:(R:Int)<(m:Int)+1:=by omega
  go_enter Tryz.func163,Tryz.ntmps163;go_upto_region 1 with fail;generalize (w.alloc (.cells #[.slice g N l,.slice f M j,.slice d R i] 38)).alloc (.cells #[int i64 y.kind,.string y.own,int i64 ((m:Int)+1),.slice o y.lgn r,int i64 y.pe,int i64 y.len,int i64 y.hei,int i64 y.cl,.bool y.all,int i64 y.be,int i64 y.unt,int i64 y.now] 47)=V at a S I ⊢;have f2:=za S 2 _ rfl;have o2:=za I 2 _ rfl;go_wp2;go_ret;exact⟨⟨3,rfl,HC⟩,a⟩
 obtain⟨Cc,Z,Y⟩:=a2.out;obtain⟨gb,off,A,n⟩:=Z m hlt;have O:=hI A;clear A;obtain⟨t,s,E,g1,s1⟩:=Y m hlt;obtain⟨b,F⟩:∃ b,b=x.bk m:=⟨_,rfl⟩;rw[← F] at E;have a1:=hI F.symm;rw[E] at n;have c:=World.block_lt_of_cell? w _ (n 0 (by decide))
 have d0:decide ((R:Int)<(m:Int)+1)=false:=decide_eq_false (by omega)
 have i0:(0:Int)<=(m:Int):=by omega
 have i1:(m:Int)<(R:Int):=by omega
 have b1:IntKind.i64.wrap ((m:Int)+1 - 1)=(m:Int):=by rw[IntKind.wrap_i64];omega
 have z:Hid (∀ q:Bool,(q=true↔zbG b y)->zcV R m x y (if q=true then (4:Int) else 0)):=fun q hq=>by
  unfold zcV;rw[a1.out];exact⟨fun h=>absurd hlt (by omega),fun _ h=>if_pos (hq.2 h),fun _ h=>if_neg (fun e=>h (hq.1 e))⟩
 go_enter Tryz.func163,Tryz.ntmps163;go_upto_region 1 with fail;generalize (w.alloc (.cells #[.slice g N l,.slice f M j,.slice d R i] 38)).alloc (.cells #[int i64 y.kind,.string y.own,int i64 ((m:Int)+1),.slice o y.lgn r,int i64 y.pe,int i64 y.len,int i64 y.hei,int i64 y.cl,.bool y.all,int i64 y.be,int i64 y.unt,int i64 y.now] 47)=V at a S I ⊢;have f2:=za S 2 _ rfl;rw[O.out] at f2;have o2:=za I 2 _ rfl;have c0:V.cell? ⟨gb,off+m*13,none⟩=some (int i64 b.name):=(a.cell (p:=⟨gb,off+m*13,none⟩) c).trans (n 0 (by decide))
 have c1:V.cell? ⟨gb,off+m*13+1,none⟩=some (int i64 b.who):=(a.cell (p:=⟨gb,off+m*13+1,none⟩) c).trans (n 1 (by decide))
 have c2:V.cell? ⟨gb,off+m*13+2,none⟩=some (.string b.own):=(a.cell (p:=⟨gb,off+m*13+2,none⟩) c).trans (n 2 (by decide))
 have c3:V.cell? ⟨gb,off+m*13+3,none⟩=some (.slice t b.lgn s):=(a.cell (p:=⟨gb,off+m*13+3,none⟩) c).trans (n 3 (by decide))
 have c4:V.cell? ⟨gb,off+m*13+4,none⟩=some (int i64 b.pe):=(a.cell (p:=⟨gb,off+m*13+4,none⟩) c).trans (n 4 (by decide))
 have c5:V.cell? ⟨gb,off+m*13+5,none⟩=some (int i64 b.len):=(a.cell (p:=⟨gb,off+m*13+5,none⟩) c).trans (n 5 (by decide))
 have c6:V.cell? ⟨gb,off+m*13+6,none⟩=some (int i64 b.hei):=(a.cell (p:=⟨gb,off+m*13+6,none⟩) c).trans (n 6 (by decide))
 have c7:V.cell? ⟨gb,off+m*13+7,none⟩=some (int i64 b.cl):=(a.cell (p:=⟨gb,off+m*13+7,none⟩) c).trans (n 7 (by decide))
 have c8:V.cell? ⟨gb,off+m*13+8,none⟩=some (.bool b.all):=(a.cell (p:=⟨gb,off+m*13+8,none⟩) c).trans (n 8 (by decide))
 have c9:V.cell? ⟨gb,off+m*13+9,none⟩=some (int i64 b.be):=(a.cell (p:=⟨gb,off+m*13+9,none⟩) c).trans (n 9 (by decide))
 have a3:V.cell? ⟨gb,off+m*13+10,none⟩=some (int i64 b.state):=(a.cell (p:=⟨gb,off+m*13+10,none⟩) c).trans (n 10 (by decide))
 have a4:V.cell? ⟨gb,off+m*13+11,none⟩=some (int i64 b.unt):=(a.cell (p:=⟨gb,off+m*13+11,none⟩) c).trans (n 11 (by decide))
 have a5:V.cell? ⟨gb,off+m*13+12,none⟩=some (int i64 b.price):=(a.cell (p:=⟨gb,off+m*13+12,none⟩) c).trans (n 12 (by decide))
 have T:=heap_alloc_new V (.cells #[int i64 b.name,int i64 b.who,.string b.own,.slice t b.lgn s,int i64 b.pe,int i64 b.len,int i64 b.hei,int i64 b.cl,.bool b.all,int i64 b.be,int i64 b.state,int i64 b.unt,int i64 b.price] 150);have pX:Below V.heap.size V (V.alloc (.cells #[int i64 b.name,int i64 b.who,.string b.own,.slice t b.lgn s,int i64 b.pe,int i64 b.len,int i64 b.hei,int i64 b.cl,.bool b.all,int i64 b.be,int i64 b.state,int i64 b.unt,int i64 b.price] 150)):=zk bZ _;have B:=zd I (.cells #[int i64 b.name,int i64 b.who,.string b.own,.slice t b.lgn s,int i64 b.pe,int i64 b.len,int i64 b.hei,int i64 b.cl,.bool b.all,int i64 b.be,int i64 b.state,int i64 b.unt,int i64 b.price] 150);clear n E g1 s1 Z Y F;go_upto_region 4 with fail;have D:=ze a pX;generalize V.heap.size=xb at T ⊢;generalize V.alloc (.cells #[int i64 b.name,int i64 b.who,.string b.own,.slice t b.lgn s,int i64 b.pe,int i64 b.len,int i64 b.hei,int i64 b.cl,.bool b.all,int i64 b.be,int i64 b.state,int i64 b.unt,int i64 b.price] 150)=W at T pX B D ⊢;clear c0 c1 c2 c3 c4 c5 c6 c7 c8 c9 a3 a4 a5 f2 o2 S I a pX i0 i1 b1 d0;obtain⟨y0,y1,y2,y3,y4,y5,y6,y7,y8,y9,b2,b3,b4⟩:=zeX T;obtain⟨u,G⟩:∃ u:Bool,u=(b.state == 1):=⟨_,rfl⟩;have a9:(b.state == 1)=u:=G.symm;have Q:Hid (u=true↔b.state=1):=by rw[G];exact beq_iff_eq
 clear G;obtain⟨lv,H⟩:∃ lv:Bool,lv=decide (zez b):=⟨_,rfl⟩;have P:Hid (lv=true↔zez b):=by rw[H];exact decide_eq_true_iff
 have cl:=zft b t s W;rw[← H] at cl;clear H;go_wp2_with fail;refine cl.mono ?_;clear cl;rintro e w4 ⟨rfl,v⟩;have U:=zb T v;have C:=zb B v;have a0:=hI (ze D v);clear y0 y1 y2 y3 y4 y5 y6 y7 y8 y9 b2 b3 b4 T B D v a9;have b7:=za U 11 _ rfl;have o0:=za C 0 _ rfl;have b6:=za C 11 _ rfl;obtain⟨J,a6⟩:∃ k:Bool,(y.kind == 4)=k:=⟨_,rfl⟩;obtain⟨K,a7⟩:∃ k:Bool,(y.kind == 8)=k:=⟨_,rfl⟩;obtain⟨L,b0⟩:∃ k:Bool,decide (y.now<=b.unt)=k:=⟨_,rfl⟩;have HQ:Hid ((!lv || (J && !u) || (K && (!u || L)))=true↔zbG b y):=by
  show(!lv || (J && !u) || (K && (!u || L)))=true↔zbG b y
  have e4:J=true↔y.kind=4:=by rw[← a6];exact beq_iff_eq
  have e8:K=true↔y.kind=8:=by rw[← a7];exact beq_iff_eq
  have eu:L=true↔y.now<=b.unt:=by rw[← b0];exact decide_eq_true_iff
  have el:=P.out;have es:=Q.out;unfold zbG;rw[← el,← e4,← e8,← eu,Ne,← es]
  cases lv <;> cases J <;> cases K <;> cases u <;> cases L <;> simp
 clear U C P Q;have HX:Hid (zcV R m x y (if (!lv || (J && !u) || (K && (!u || L)))=true then (4:Int) else 0)):=z.out _ HQ.out
 clear HQ z
 cases lv <;> cases J <;> cases K <;> cases u <;> cases L
 all_goals
  go_wp2;go_ret;exact⟨⟨_,rfl,HX.out⟩,a0.out⟩
theorem specOp_1 (own:ByteArray)(name:Int)(i:Option Addr)(lgn j:Nat)(lg:Nat->Int)(pe len hei cl:Int)(all:Bool)(be unt now:Int)(w:World)(_:own.size<=1000000000000000) :
  Calls Tryz.prog 159 #[.agg #[int i64 1,.string own,int i64 name,.slice i lgn j,int i64 pe,int i64 len,int i64 hei,int i64 cl,.bool all,int i64 be,int i64 unt,int i64 now]] w fun e w'=>e=.returned (.bool (decide (zac ⟨1,own,name,lgn,lg,pe,len,hei,cl,all,be,unt,now⟩)))/\Below w.heap.size w w':=by
 obtain⟨R,H⟩:∃ R,R=decide (zac ⟨1,own,name,lgn,lg,pe,len,hei,cl,all,be,unt,now⟩):=⟨_,rfl⟩;rw[← H];obtain⟨bo,r⟩:∃ b,b=decide (ZS 1 own):=⟨_,rfl⟩;obtain⟨F,p⟩:∃ b,b=decide (Qs 1 name):=⟨_,rfl⟩;obtain⟨E,o⟩:∃ b,b=decide (qi 1 lgn):=⟨_,rfl⟩;obtain⟨bp,s⟩:∃ b,b=decide (qA 1 ⟨pe,len,hei,cl,all,be⟩):=⟨_,rfl⟩;obtain⟨z,t⟩:∃ b,b=decide (Qm 1 unt):=⟨_,rfl⟩;obtain⟨A,u⟩:∃ b,b=decide (zbW 1 now):=⟨_,rfl⟩;have l:Hid (R=(bo && F && E && bp && z && A)):=by
  show R=(bo && F && E && bp && z && A)
  rw[H,r,p,o,s,t,u];exact Q8 (k:=1) (by unfold In;omega)
 clear H;have Y:own.toList.isEmpty=bo:=by rw[r,zap own (k:=1) (by omega)]
 have X:(name == 0)=F:=by rw[p,zds name (k:=1) (by unfold In;omega)]
 have V:decide (In (lgn:Int) 1 3)=E:=by rw[o];exact decide_eq_decide.2 (by unfold qi zJ In;simp;omega)
 have Q:=hI s;have K:=hI t;have L:=hI u;clear r p o s t u;have d9:decide (In 1 1 9)=true:=by decide
 have dn:decide (In 1 4 8)=false:=by decide
 have dl:decide (zJ 1)=true:=by decide
 have m:Below w.heap.size w (w.alloc (.cells #[int i64 1,.string own,int i64 name,.slice i lgn j,int i64 pe,int i64 len,int i64 hei,int i64 cl,.bool all,int i64 be,int i64 unt,int i64 now] 47)):=zk bZ _;have C:=heap_alloc_new w (.cells #[int i64 1,.string own,int i64 name,.slice i lgn j,int i64 pe,int i64 len,int i64 hei,int i64 cl,.bool all,int i64 be,int i64 unt,int i64 now] 47);go_enter Tryz.func159,Tryz.ntmps159;go_upto_region 11 with(first|(go_at_call 148;refine sC (zt _ _ _ _) ?_)|(go_at_call 162;refine sC (zO _ _) ?_)|(go_at_call 160;refine sC (zV _ _) ?_))
 generalize w.alloc (.cells #[int i64 1,.string own,int i64 name,.slice i lgn j,int i64 pe,int i64 len,int i64 hei,int i64 cl,.bool all,int i64 be,int i64 unt,int i64 now] 47)=W at m C ⊢;obtain⟨I,y1,y2,J,y4,y5,y6,y7,y8,y9,x,y⟩:=zeW C;go_cut [7] (fun c B=>c=.bool (PZ pe len hei cl all be)/\B=W)
 case first =>
  by_cases gpe:pe=0
  ·subst gpe
   by_cases glen:len=0
   ·subst glen
    by_cases ghei:hei=0
    ·subst ghei
     by_cases gcl:cl=0
     ·subst gcl
      cases all with
      | true =>
       have g:PZ 0 0 0 0 true be=false:=Zw (fun h=>by cases h.2.2.2.2.1)
       go_wp2;go_meet;exact⟨by rw[g],rfl⟩
      | false =>
       by_cases gbe:be=0
       ·subst gbe
        go_wp2;go_meet;exact⟨rfl,rfl⟩
       ·have T:(be == 0)=false:=by simpa using gbe
        have g:PZ 0 0 0 0 false be=false:=Zw (fun h=>gbe h.2.2.2.2.2)
        go_wp2;go_meet;exact⟨by rw[g],rfl⟩
     ·have U:(cl == 0)=false:=by simpa using gcl
      have g:PZ 0 0 0 cl all be=false:=Zw (fun h=>gcl h.2.2.2.1)
      go_wp2;go_meet;exact⟨by rw[g],rfl⟩
    ·have N:(hei == 0)=false:=by simpa using ghei
     have g:PZ 0 0 hei cl all be=false:=Zw (fun h=>ghei h.2.2.1)
     go_wp2;go_meet;exact⟨by rw[g],rfl⟩
   ·have O:(len == 0)=false:=by simpa using glen
    have g:PZ 0 len hei cl all be=false:=Zw (fun h=>glen h.2.1)
    go_wp2;go_meet;exact⟨by rw[g],rfl⟩
  ·have Z:(pe == 0)=false:=by simpa using gpe
   have g:PZ pe len hei cl all be=false:=Zw (fun h=>gpe h.1)
   go_wp2;go_meet;exact⟨by rw[g],rfl⟩
 case rest =>
  obtain⟨rfl,v⟩:=hcut;have v:=v.symm;subst v;generalize PZ pe len hei cl all be=pz at *;go_wp2_with (first|(go_at_call 148;refine sC (zt _ _ _ _) ?_)|(go_at_call 162;refine sC (zO _ _) ?_)|(go_at_call 160;refine sC (zV _ _) ?_))
  refine(zaz pe len hei cl all be _).mono ?_;rintro e M ⟨⟨q,rfl,P⟩,n⟩;obtain rfl:bp=q:=by rw[Q.out];exact zcl (k:=1) (.inl rfl) P
  have D:=zb C n;have a:=ze m n;clear m C n P I y1 y2 J y4 y5 y6 y7 y8 y9 x y;have I:=za D 0 _ rfl;have J:=za D 3 _ rfl;have x:=za D 10 _ rfl;have y:=za D 11 _ rfl;go_upto_region 17 with(first|(go_at_call 148;refine sC (zt _ _ _ _) ?_)|(go_at_call 162;refine sC (zO _ _) ?_)|(go_at_call 160;refine sC (zV _ _) ?_))
  go_cut [8] (fun c B=>c=.bool z/\B=M)
  case first =>
   by_cases u0:unt=0
   ·subst u0
    go_wp2;go_meet;exact⟨by rw[K.out,decide_eq_true (.inl rfl)],rfl⟩
   ·have S:(unt == 0)=false:=by simpa using u0
    have G:z=false:=by rw[K.out];exact decide_eq_false (fun h=>by rcases h with h|h;exact u0 h;exact absurd h.1 (by decide))
    go_wp2;go_meet;exact⟨by rw[G],rfl⟩
  case rest =>
   obtain⟨rfl,d⟩:=hcut;have d:=d.symm;subst d;go_upto_region 18 with(first|(go_at_call 148;refine sC (zt _ _ _ _) ?_)|(go_at_call 162;refine sC (zO _ _) ?_)|(go_at_call 160;refine sC (zV _ _) ?_))
   go_cut [9] (fun c B=>c=.bool A/\B=M)
   case first =>
    by_cases u0:now=0
    ·subst u0
     go_wp2;go_meet;exact⟨by rw[L.out,decide_eq_true (.inl rfl)],rfl⟩
    ·have S:(now == 0)=false:=by simpa using u0
     have G:A=false:=by rw[L.out];exact decide_eq_false (fun h=>by rcases h with h|h;exact u0 h;exact absurd h.1 (by decide))
     go_wp2;go_meet;exact⟨by rw[G],rfl⟩
   case rest =>
    obtain⟨rfl,f⟩:=hcut;have f:=f.symm;subst f;clear Y X V I J x y
    cases bo with
    | false =>
     go_wp2;go_ret;exact⟨by rw[l.out];simp,a⟩
    | true =>
     cases F with
     | false =>
      go_wp2;go_ret;exact⟨by rw[l.out];simp,a⟩
     | true =>
      cases E with
      | false =>
       go_wp2;go_ret;exact⟨by rw[l.out];simp,a⟩
      | true =>
       cases bp with
       | false =>
        go_wp2;go_ret;exact⟨by rw[l.out];simp,a⟩
       | true =>
        cases z with
        | false =>
         go_wp2;go_ret;exact⟨by rw[l.out];simp,a⟩
        | true =>
         cases A with
         | false =>
          go_wp2;go_ret;exact⟨by rw[l.out];simp,a⟩
         | true =>
          go_wp2;go_ret;exact⟨by rw[l.out];rfl,a⟩
theorem specOp_2 (own:ByteArray)(name:Int)(j:Option Addr)(lgn l:Nat)(lg:Nat->Int)(pe len hei cl:Int)(all:Bool)(be unt now:Int)(w:World)(a:own.size<=1000000000000000) :
  Calls Tryz.prog 159 #[.agg #[int i64 2,.string own,int i64 name,.slice j lgn l,int i64 pe,int i64 len,int i64 hei,int i64 cl,.bool all,int i64 be,int i64 unt,int i64 now]] w fun e w'=>e=.returned (.bool (decide (zac ⟨2,own,name,lgn,lg,pe,len,hei,cl,all,be,unt,now⟩)))/\Below w.heap.size w w':=by
 obtain⟨R,H⟩:∃ R,R=decide (zac ⟨2,own,name,lgn,lg,pe,len,hei,cl,all,be,unt,now⟩):=⟨_,rfl⟩;rw[← H];obtain⟨bo,s⟩:∃ b,b=decide (ZS 2 own):=⟨_,rfl⟩;obtain⟨G,r⟩:∃ b,b=decide (Qs 2 name):=⟨_,rfl⟩;obtain⟨F,p⟩:∃ b,b=decide (qi 2 lgn):=⟨_,rfl⟩;obtain⟨bp,t⟩:∃ b,b=decide (qA 2 ⟨pe,len,hei,cl,all,be⟩):=⟨_,rfl⟩;obtain⟨A,u⟩:∃ b,b=decide (Qm 2 unt):=⟨_,rfl⟩;obtain⟨B,v⟩:∃ b,b=decide (zbW 2 now):=⟨_,rfl⟩;have m:Hid (R=(bo && G && F && bp && A && B)):=by
  show R=(bo && G && F && bp && A && B)
  rw[H,s,r,p,t,u,v];exact Q8 (k:=2) (by unfold In;omega)
 clear H;have Z:decide (Zg own)=bo:=by rw[s];exact decide_eq_decide.2 (by unfold ZS;simp)
 have Y:(name == 0)=G:=by rw[r,zds name (k:=2) (by unfold In;omega)]
 have X:decide (In (lgn:Int) 1 3)=F:=by rw[p];exact decide_eq_decide.2 (by unfold qi zJ In;simp;omega)
 have S:=hI t;have K:=hI u;have L:=hI v;clear s r p t u v;have d9:decide (In 2 1 9)=true:=by decide
 have dn:decide (In 2 4 8)=false:=by decide
 have dl:decide (zJ 2)=true:=by decide
 have n:Below w.heap.size w (w.alloc (.cells #[int i64 2,.string own,int i64 name,.slice j lgn l,int i64 pe,int i64 len,int i64 hei,int i64 cl,.bool all,int i64 be,int i64 unt,int i64 now] 47)):=zk bZ _;have D:=heap_alloc_new w (.cells #[int i64 2,.string own,int i64 name,.slice j lgn l,int i64 pe,int i64 len,int i64 hei,int i64 cl,.bool all,int i64 be,int i64 unt,int i64 now] 47);go_enter Tryz.func159,Tryz.ntmps159;go_upto_region 11 with(first|(go_at_call 148;refine sC (zt _ _ _ _) ?_)|(go_at_call 162;refine sC (zO _ _) ?_)|(go_at_call 160;refine sC (zV _ _) ?_)|(go_at_call 156;refine sC (qS _ _ a) ?_))
 generalize w.alloc (.cells #[int i64 2,.string own,int i64 name,.slice j lgn l,int i64 pe,int i64 len,int i64 hei,int i64 cl,.bool all,int i64 be,int i64 unt,int i64 now] 47)=W at n D ⊢;obtain⟨I,y1,y2,J,y4,y5,y6,y7,y8,y9,y,z⟩:=zeW D;go_cut [7] (fun c C=>c=.bool (PZ pe len hei cl all be)/\C=W)
 case first =>
  by_cases gpe:pe=0
  ·subst gpe
   by_cases glen:len=0
   ·subst glen
    by_cases ghei:hei=0
    ·subst ghei
     by_cases gcl:cl=0
     ·subst gcl
      cases all with
      | true =>
       have i:PZ 0 0 0 0 true be=false:=Zw (fun h=>by cases h.2.2.2.2.1)
       go_wp2;go_meet;exact⟨by rw[i],rfl⟩
      | false =>
       by_cases gbe:be=0
       ·subst gbe
        go_wp2;go_meet;exact⟨rfl,rfl⟩
       ·have U:(be == 0)=false:=by simpa using gbe
        have i:PZ 0 0 0 0 false be=false:=Zw (fun h=>gbe h.2.2.2.2.2)
        go_wp2;go_meet;exact⟨by rw[i],rfl⟩
     ·have V:(cl == 0)=false:=by simpa using gcl
      have i:PZ 0 0 0 cl all be=false:=Zw (fun h=>gcl h.2.2.2.1)
      go_wp2;go_meet;exact⟨by rw[i],rfl⟩
    ·have N:(hei == 0)=false:=by simpa using ghei
     have i:PZ 0 0 hei cl all be=false:=Zw (fun h=>ghei h.2.2.1)
     go_wp2;go_meet;exact⟨by rw[i],rfl⟩
   ·have O:(len == 0)=false:=by simpa using glen
    have i:PZ 0 len hei cl all be=false:=Zw (fun h=>glen h.2.1)
    go_wp2;go_meet;exact⟨by rw[i],rfl⟩
  ·have a0:(pe == 0)=false:=by simpa using gpe
   have i:PZ pe len hei cl all be=false:=Zw (fun h=>gpe h.1)
   go_wp2;go_meet;exact⟨by rw[i],rfl⟩
 case rest =>
  obtain⟨rfl,x⟩:=hcut;have x:=x.symm;subst x;generalize PZ pe len hei cl all be=pz at *;go_wp2_with (first|(go_at_call 148;refine sC (zt _ _ _ _) ?_)|(go_at_call 162;refine sC (zO _ _) ?_)|(go_at_call 160;refine sC (zV _ _) ?_)|(go_at_call 156;refine sC (qS _ _ a) ?_))
  refine(zaz pe len hei cl all be _).mono ?_;rintro e M ⟨⟨q,rfl,Q⟩,o⟩;obtain rfl:bp=q:=by rw[S.out];exact zcl (k:=2) (.inr (.inl rfl)) Q
  have E:=zb D o;have d:=ze n o;clear n D o Q I y1 y2 J y4 y5 y6 y7 y8 y9 y z;have I:=za E 0 _ rfl;have J:=za E 3 _ rfl;have y:=za E 10 _ rfl;have z:=za E 11 _ rfl;go_upto_region 17 with(first|(go_at_call 148;refine sC (zt _ _ _ _) ?_)|(go_at_call 162;refine sC (zO _ _) ?_)|(go_at_call 160;refine sC (zV _ _) ?_)|(go_at_call 156;refine sC (qS _ _ a) ?_))
  go_cut [8] (fun c C=>c=.bool A/\C=M)
  case first =>
   by_cases u0:unt=0
   ·subst u0
    go_wp2;go_meet;exact⟨by rw[K.out,decide_eq_true (.inl rfl)],rfl⟩
   ·have T:(unt == 0)=false:=by simpa using u0
    have P:decide (In unt 0 10000)=A:=by rw[K.out];exact decide_eq_decide.2 ⟨fun h=>.inr ⟨rfl,h⟩,fun h=>by rcases h with h|h;exact absurd h u0;exact h.2⟩
    go_wp2_with (first|(go_at_call 148;refine sC (zt _ _ _ _) ?_)|(go_at_call 162;refine sC (zO _ _) ?_)|(go_at_call 160;refine sC (zV _ _) ?_)|(go_at_call 156;refine sC (qS _ _ a) ?_))
    go_meet;exact⟨rfl,rfl⟩
  case rest =>
   obtain⟨rfl,f⟩:=hcut;have f:=f.symm;subst f;go_upto_region 18 with(first|(go_at_call 148;refine sC (zt _ _ _ _) ?_)|(go_at_call 162;refine sC (zO _ _) ?_)|(go_at_call 160;refine sC (zV _ _) ?_)|(go_at_call 156;refine sC (qS _ _ a) ?_))
   go_cut [9] (fun c C=>c=.bool B/\C=M)
   case first =>
    by_cases u0:now=0
    ·subst u0
     go_wp2;go_meet;exact⟨by rw[L.out,decide_eq_true (.inl rfl)],rfl⟩
    ·have T:(now == 0)=false:=by simpa using u0
     have P:B=false:=by rw[L.out];exact decide_eq_false (fun h=>by rcases h with h|h;exact u0 h;exact absurd h.1 (by decide))
     go_wp2;go_meet;exact⟨by rw[P],rfl⟩
   case rest =>
    obtain⟨rfl,g⟩:=hcut;have g:=g.symm;subst g;clear Z Y X I J y z
    cases bo with
    | false =>
     go_wp2;go_ret;exact⟨by rw[m.out];simp,d⟩
    | true =>
     cases G with
     | false =>
      go_wp2;go_ret;exact⟨by rw[m.out];simp,d⟩
     | true =>
      cases F with
      | false =>
       go_wp2;go_ret;exact⟨by rw[m.out];simp,d⟩
      | true =>
       cases bp with
       | false =>
        go_wp2;go_ret;exact⟨by rw[m.out];simp,d⟩
       | true =>
        cases A with
        | false =>
         go_wp2;go_ret;exact⟨by rw[m.out];simp,d⟩
        | true =>
         cases B with
         | false =>
          go_wp2;go_ret;exact⟨by rw[m.out];simp,d⟩
         | true =>
          go_wp2;go_ret;exact⟨by rw[m.out];rfl,d⟩
theorem specOp_3 (own:ByteArray)(name:Int)(j:Option Addr)(lgn l:Nat)(lg:Nat->Int)(pe len hei cl:Int)(all:Bool)(be unt now:Int)(w:World)(d:own.size<=1000000000000000) :
  Calls Tryz.prog 159 #[.agg #[int i64 3,.string own,int i64 name,.slice j lgn l,int i64 pe,int i64 len,int i64 hei,int i64 cl,.bool all,int i64 be,int i64 unt,int i64 now]] w fun e w'=>e=.returned (.bool (decide (zac ⟨3,own,name,lgn,lg,pe,len,hei,cl,all,be,unt,now⟩)))/\Below w.heap.size w w':=by
 obtain⟨R,I⟩:∃ R,R=decide (zac ⟨3,own,name,lgn,lg,pe,len,hei,cl,all,be,unt,now⟩):=⟨_,rfl⟩;rw[← I];obtain⟨bo,s⟩:∃ b,b=decide (ZS 3 own):=⟨_,rfl⟩;obtain⟨G,r⟩:∃ b,b=decide (Qs 3 name):=⟨_,rfl⟩;obtain⟨F,p⟩:∃ b,b=decide (qi 3 lgn):=⟨_,rfl⟩;obtain⟨bp,t⟩:∃ b,b=decide (qA 3 ⟨pe,len,hei,cl,all,be⟩):=⟨_,rfl⟩;obtain⟨A,u⟩:∃ b,b=decide (Qm 3 unt):=⟨_,rfl⟩;obtain⟨B,v⟩:∃ b,b=decide (zbW 3 now):=⟨_,rfl⟩;have m:Hid (R=(bo && G && F && bp && A && B)):=by
  show R=(bo && G && F && bp && A && B)
  rw[I,s,r,p,t,u,v];exact Q8 (k:=3) (by unfold In;omega)
 clear I;have Z:decide (Zg own)=bo:=by rw[s];exact decide_eq_decide.2 (by unfold ZS;simp)
 have Y:(name == 0)=G:=by rw[r,zds name (k:=3) (by unfold In;omega)]
 have X:decide (In (lgn:Int) 1 3)=F:=by rw[p];exact decide_eq_decide.2 (by unfold qi zJ In;simp;omega)
 have S:=hI t;have L:=hI u;have M:=hI v;clear s r p t u v;have d9:decide (In 3 1 9)=true:=by decide
 have dn:decide (In 3 4 8)=false:=by decide
 have dl:decide (zJ 3)=true:=by decide
 have n:Below w.heap.size w (w.alloc (.cells #[int i64 3,.string own,int i64 name,.slice j lgn l,int i64 pe,int i64 len,int i64 hei,int i64 cl,.bool all,int i64 be,int i64 unt,int i64 now] 47)):=zk bZ _;have D:=heap_alloc_new w (.cells #[int i64 3,.string own,int i64 name,.slice j lgn l,int i64 pe,int i64 len,int i64 hei,int i64 cl,.bool all,int i64 be,int i64 unt,int i64 now] 47);go_enter Tryz.func159,Tryz.ntmps159;go_upto_region 11 with(first|(go_at_call 148;refine sC (zt _ _ _ _) ?_)|(go_at_call 162;refine sC (zO _ _) ?_)|(go_at_call 160;refine sC (zV _ _) ?_)|(go_at_call 156;refine sC (qS _ _ d) ?_))
 generalize w.alloc (.cells #[int i64 3,.string own,int i64 name,.slice j lgn l,int i64 pe,int i64 len,int i64 hei,int i64 cl,.bool all,int i64 be,int i64 unt,int i64 now] 47)=W at n D ⊢;obtain⟨J,y1,y2,K,y4,y5,y6,y7,y8,y9,y,z⟩:=zeW D;go_cut [7] (fun c C=>c=.bool (PZ pe len hei cl all be)/\C=W)
 case first =>
  by_cases gpe:pe=0
  ·subst gpe
   by_cases glen:len=0
   ·subst glen
    by_cases ghei:hei=0
    ·subst ghei
     by_cases gcl:cl=0
     ·subst gcl
      cases all with
      | true =>
       have i:PZ 0 0 0 0 true be=false:=Zw (fun h=>by cases h.2.2.2.2.1)
       go_wp2;go_meet;exact⟨by rw[i],rfl⟩
      | false =>
       by_cases gbe:be=0
       ·subst gbe
        go_wp2;go_meet;exact⟨rfl,rfl⟩
       ·have U:(be == 0)=false:=by simpa using gbe
        have i:PZ 0 0 0 0 false be=false:=Zw (fun h=>gbe h.2.2.2.2.2)
        go_wp2;go_meet;exact⟨by rw[i],rfl⟩
     ·have V:(cl == 0)=false:=by simpa using gcl
      have i:PZ 0 0 0 cl all be=false:=Zw (fun h=>gcl h.2.2.2.1)
      go_wp2;go_meet;exact⟨by rw[i],rfl⟩
    ·have O:(hei == 0)=false:=by simpa using ghei
     have i:PZ 0 0 hei cl all be=false:=Zw (fun h=>ghei h.2.2.1)
     go_wp2;go_meet;exact⟨by rw[i],rfl⟩
   ·have P:(len == 0)=false:=by simpa using glen
    have i:PZ 0 len hei cl all be=false:=Zw (fun h=>glen h.2.1)
    go_wp2;go_meet;exact⟨by rw[i],rfl⟩
  ·have a0:(pe == 0)=false:=by simpa using gpe
   have i:PZ pe len hei cl all be=false:=Zw (fun h=>gpe h.1)
   go_wp2;go_meet;exact⟨by rw[i],rfl⟩
 case rest =>
  obtain⟨rfl,x⟩:=hcut;have x:=x.symm;subst x;generalize PZ pe len hei cl all be=pz at *;go_wp2_with (first|(go_at_call 148;refine sC (zt _ _ _ _) ?_)|(go_at_call 162;refine sC (zO _ _) ?_)|(go_at_call 160;refine sC (zV _ _) ?_)|(go_at_call 156;refine sC (qS _ _ d) ?_))
  refine(zaz pe len hei cl all be _).mono ?_;rintro e N ⟨⟨q,rfl,Q⟩,o⟩;obtain rfl:bp=q:=by rw[S.out];exact zcl (k:=3) (.inr (.inr (.inl rfl))) Q
  have E:=zb D o;have a:=ze n o;clear n D o Q J y1 y2 K y4 y5 y6 y7 y8 y9 y z;have J:=za E 0 _ rfl;have K:=za E 3 _ rfl;have y:=za E 10 _ rfl;have z:=za E 11 _ rfl;go_upto_region 17 with(first|(go_at_call 148;refine sC (zt _ _ _ _) ?_)|(go_at_call 162;refine sC (zO _ _) ?_)|(go_at_call 160;refine sC (zV _ _) ?_)|(go_at_call 156;refine sC (qS _ _ d) ?_))
  go_cut [8] (fun c C=>c=.bool A/\C=N)
  case first =>
   by_cases u0:unt=0
   ·subst u0
    go_wp2;go_meet;exact⟨by rw[L.out,decide_eq_true (.inl rfl)],rfl⟩
   ·have T:(unt == 0)=false:=by simpa using u0
    have H:A=false:=by rw[L.out];exact decide_eq_false (fun h=>by rcases h with h|h;exact u0 h;exact absurd h.1 (by decide))
    go_wp2;go_meet;exact⟨by rw[H],rfl⟩
  case rest =>
   obtain⟨rfl,f⟩:=hcut;have f:=f.symm;subst f;go_upto_region 18 with(first|(go_at_call 148;refine sC (zt _ _ _ _) ?_)|(go_at_call 162;refine sC (zO _ _) ?_)|(go_at_call 160;refine sC (zV _ _) ?_)|(go_at_call 156;refine sC (qS _ _ d) ?_))
   go_cut [9] (fun c C=>c=.bool B/\C=N)
   case first =>
    by_cases u0:now=0
    ·subst u0
     go_wp2;go_meet;exact⟨by rw[M.out,decide_eq_true (.inl rfl)],rfl⟩
    ·have T:(now == 0)=false:=by simpa using u0
     have H:B=false:=by rw[M.out];exact decide_eq_false (fun h=>by rcases h with h|h;exact u0 h;exact absurd h.1 (by decide))
     go_wp2;go_meet;exact⟨by rw[H],rfl⟩
   case rest =>
    obtain⟨rfl,g⟩:=hcut;have g:=g.symm;subst g;clear Z Y X J K y z
    cases bo with
    | false =>
     go_wp2;go_ret;exact⟨by rw[m.out];simp,a⟩
    | true =>
     cases G with
     | false =>
      go_wp2;go_ret;exact⟨by rw[m.out];simp,a⟩
     | true =>
      cases F with
      | false =>
       go_wp2;go_ret;exact⟨by rw[m.out];simp,a⟩
      | true =>
       cases bp with
       | false =>
        go_wp2;go_ret;exact⟨by rw[m.out];simp,a⟩
       | true =>
        cases A with
        | false =>
         go_wp2;go_ret;exact⟨by rw[m.out];simp,a⟩
        | true =>
         cases B with
         | false =>
          go_wp2;go_ret;exact⟨by rw[m.out];simp,a⟩
         | true =>
          go_wp2;go_ret;exact⟨by rw[m.out];rfl,a⟩
theorem specOp_4 (own:ByteArray)(name:Int)(i:Option Addr)(lgn j:Nat)(lg:Nat->Int)(pe len hei cl:Int)(all:Bool)(be unt now:Int)(w:World)(_:own.size<=1000000000000000) :
  Calls Tryz.prog 159 #[.agg #[int i64 4,.string own,int i64 name,.slice i lgn j,int i64 pe,int i64 len,int i64 hei,int i64 cl,.bool all,int i64 be,int i64 unt,int i64 now]] w fun e w'=>e=.returned (.bool (decide (zac ⟨4,own,name,lgn,lg,pe,len,hei,cl,all,be,unt,now⟩)))/\Below w.heap.size w w':=by
 obtain⟨R,C⟩:∃ R,R=decide (zac ⟨4,own,name,lgn,lg,pe,len,hei,cl,all,be,unt,now⟩):=⟨_,rfl⟩;rw[← C];obtain⟨bo,p⟩:∃ b,b=decide (ZS 4 own):=⟨_,rfl⟩;obtain⟨z,o⟩:∃ b,b=decide (Qs 4 name):=⟨_,rfl⟩;obtain⟨y,n⟩:∃ b,b=decide (qi 4 lgn):=⟨_,rfl⟩;obtain⟨bp,q⟩:∃ b,b=decide (qA 4 ⟨pe,len,hei,cl,all,be⟩):=⟨_,rfl⟩;obtain⟨u,r⟩:∃ b,b=decide (Qm 4 unt):=⟨_,rfl⟩;obtain⟨v,s⟩:∃ b,b=decide (zbW 4 now):=⟨_,rfl⟩;have l:Hid (R=(bo && z && y && bp && u && v)):=by
  show R=(bo && z && y && bp && u && v)
  rw[C,p,o,n,q,r,s];exact Q8 (k:=4) (by unfold In;omega)
 clear C;have P:own.toList.isEmpty=bo:=by rw[p,zap own (k:=4) (by omega)]
 have O:decide (In name 1 30)=z:=by rw[o];exact decide_eq_decide.2 (by unfold Qs In;simp)
 have N:((lgn:Int) == 0)=y:=by rw[n,zey];exact decide_eq_decide.2 (by unfold qi zJ;simp)
 have J:=hI q;have F:=hI r;have G:=hI s;clear p o n q r s;have d9:decide (In 4 1 9)=true:=by decide
 have dn:decide (In 4 4 8)=true:=by decide
 have dl:decide (zJ 4)=false:=by decide
 have m:Below w.heap.size w (w.alloc (.cells #[int i64 4,.string own,int i64 name,.slice i lgn j,int i64 pe,int i64 len,int i64 hei,int i64 cl,.bool all,int i64 be,int i64 unt,int i64 now] 47)):=zk bZ _;have A:=heap_alloc_new w (.cells #[int i64 4,.string own,int i64 name,.slice i lgn j,int i64 pe,int i64 len,int i64 hei,int i64 cl,.bool all,int i64 be,int i64 unt,int i64 now] 47);go_enter Tryz.func159,Tryz.ntmps159;go_upto_region 11 with(first|(go_at_call 148;refine sC (zt _ _ _ _) ?_)|(go_at_call 162;refine sC (zO _ _) ?_)|(go_at_call 160;refine sC (zV _ _) ?_))
 generalize w.alloc (.cells #[int i64 4,.string own,int i64 name,.slice i lgn j,int i64 pe,int i64 len,int i64 hei,int i64 cl,.bool all,int i64 be,int i64 unt,int i64 now] 47)=W at m A ⊢;obtain⟨S,T,U,V,X,Y,Z,y7,y8,y9,D,E⟩:=zeW A;go_cut [7] (fun c x=>c=.bool (PZ pe len hei cl all be)/\x=W)
 case first =>
  by_cases gpe:pe=0
  ·subst gpe
   by_cases glen:len=0
   ·subst glen
    by_cases ghei:hei=0
    ·subst ghei
     by_cases gcl:cl=0
     ·subst gcl
      cases all with
      | true =>
       have g:PZ 0 0 0 0 true be=false:=Zw (fun h=>by cases h.2.2.2.2.1)
       go_wp2;go_meet;exact⟨by rw[g],rfl⟩
      | false =>
       by_cases gbe:be=0
       ·subst gbe
        go_wp2;go_meet;exact⟨rfl,rfl⟩
       ·have L:(be == 0)=false:=by simpa using gbe
        have g:PZ 0 0 0 0 false be=false:=Zw (fun h=>gbe h.2.2.2.2.2)
        go_wp2;go_meet;exact⟨by rw[g],rfl⟩
     ·have M:(cl == 0)=false:=by simpa using gcl
      have g:PZ 0 0 0 cl all be=false:=Zw (fun h=>gcl h.2.2.2.1)
      go_wp2;go_meet;exact⟨by rw[g],rfl⟩
    ·have H:(hei == 0)=false:=by simpa using ghei
     have g:PZ 0 0 hei cl all be=false:=Zw (fun h=>ghei h.2.2.1)
     go_wp2;go_meet;exact⟨by rw[g],rfl⟩
   ·have I:(len == 0)=false:=by simpa using glen
    have g:PZ 0 len hei cl all be=false:=Zw (fun h=>glen h.2.1)
    go_wp2;go_meet;exact⟨by rw[g],rfl⟩
  ·have Q:(pe == 0)=false:=by simpa using gpe
   have g:PZ pe len hei cl all be=false:=Zw (fun h=>gpe h.1)
   go_wp2;go_meet;exact⟨by rw[g],rfl⟩
 case rest =>
  obtain⟨rfl,t⟩:=hcut;have t:=t.symm;subst t;obtain rfl:PZ pe len hei cl all be=bp:=by rw[J.out];exact zby (k:=4) (by unfold zJ;omega)
  generalize PZ pe len hei cl all be=bp at *;have a:=m;clear m A;go_upto_region 17 with(first|(go_at_call 148;refine sC (zt _ _ _ _) ?_)|(go_at_call 162;refine sC (zO _ _) ?_)|(go_at_call 160;refine sC (zV _ _) ?_))
  go_cut [8] (fun c x=>c=.bool u/\x=W)
  case first =>
   by_cases u0:unt=0
   ·subst u0
    go_wp2;go_meet;exact⟨by rw[F.out,decide_eq_true (.inl rfl)],rfl⟩
   ·have K:(unt == 0)=false:=by simpa using u0
    have B:u=false:=by rw[F.out];exact decide_eq_false (fun h=>by rcases h with h|h;exact u0 h;exact absurd h.1 (by decide))
    go_wp2;go_meet;exact⟨by rw[B],rfl⟩
  case rest =>
   obtain⟨rfl,d⟩:=hcut;have d:=d.symm;subst d;go_upto_region 18 with(first|(go_at_call 148;refine sC (zt _ _ _ _) ?_)|(go_at_call 162;refine sC (zO _ _) ?_)|(go_at_call 160;refine sC (zV _ _) ?_))
   go_cut [9] (fun c x=>c=.bool v/\x=W)
   case first =>
    by_cases u0:now=0
    ·subst u0
     go_wp2;go_meet;exact⟨by rw[G.out,decide_eq_true (.inl rfl)],rfl⟩
    ·have K:(now == 0)=false:=by simpa using u0
     have B:v=false:=by rw[G.out];exact decide_eq_false (fun h=>by rcases h with h|h;exact u0 h;exact absurd h.1 (by decide))
     go_wp2;go_meet;exact⟨by rw[B],rfl⟩
   case rest =>
    obtain⟨rfl,f⟩:=hcut;have f:=f.symm;subst f;clear P O N S T U V X Y Z y7 y8 y9 D E
    cases bo with
    | false =>
     go_wp2;go_ret;exact⟨by rw[l.out];simp,a⟩
    | true =>
     cases z with
     | false =>
      go_wp2;go_ret;exact⟨by rw[l.out];simp,a⟩
     | true =>
      cases y with
      | false =>
       go_wp2;go_ret;exact⟨by rw[l.out];simp,a⟩
      | true =>
       cases bp with
       | false =>
        go_wp2;go_ret;exact⟨by rw[l.out];simp,a⟩
       | true =>
        cases u with
        | false =>
         go_wp2;go_ret;exact⟨by rw[l.out];simp,a⟩
        | true =>
         cases v with
         | false =>
          go_wp2;go_ret;exact⟨by rw[l.out];simp,a⟩
         | true =>
          go_wp2;go_ret;exact⟨by rw[l.out];rfl,a⟩
theorem specOp_5 (own:ByteArray)(name:Int)(i:Option Addr)(lgn j:Nat)(lg:Nat->Int)(pe len hei cl:Int)(all:Bool)(be unt now:Int)(w:World)(_:own.size<=1000000000000000) :
  Calls Tryz.prog 159 #[.agg #[int i64 5,.string own,int i64 name,.slice i lgn j,int i64 pe,int i64 len,int i64 hei,int i64 cl,.bool all,int i64 be,int i64 unt,int i64 now]] w fun e w'=>e=.returned (.bool (decide (zac ⟨5,own,name,lgn,lg,pe,len,hei,cl,all,be,unt,now⟩)))/\Below w.heap.size w w':=by
 obtain⟨R,H⟩:∃ R,R=decide (zac ⟨5,own,name,lgn,lg,pe,len,hei,cl,all,be,unt,now⟩):=⟨_,rfl⟩;rw[← H];obtain⟨bo,r⟩:∃ b,b=decide (ZS 5 own):=⟨_,rfl⟩;obtain⟨F,p⟩:∃ b,b=decide (Qs 5 name):=⟨_,rfl⟩;obtain⟨E,o⟩:∃ b,b=decide (qi 5 lgn):=⟨_,rfl⟩;obtain⟨bp,s⟩:∃ b,b=decide (qA 5 ⟨pe,len,hei,cl,all,be⟩):=⟨_,rfl⟩;obtain⟨z,t⟩:∃ b,b=decide (Qm 5 unt):=⟨_,rfl⟩;obtain⟨A,u⟩:∃ b,b=decide (zbW 5 now):=⟨_,rfl⟩;have l:Hid (R=(bo && F && E && bp && z && A)):=by
  show R=(bo && F && E && bp && z && A)
  rw[H,r,p,o,s,t,u];exact Q8 (k:=5) (by unfold In;omega)
 clear H;have Y:own.toList.isEmpty=bo:=by rw[r,zap own (k:=5) (by omega)]
 have X:decide (In name 1 30)=F:=by rw[p];exact decide_eq_decide.2 (by unfold Qs In;simp)
 have V:decide (In (lgn:Int) 1 3)=E:=by rw[o];exact decide_eq_decide.2 (by unfold qi zJ In;simp;omega)
 have Q:=hI s;have K:=hI t;have L:=hI u;clear r p o s t u;have d9:decide (In 5 1 9)=true:=by decide
 have dn:decide (In 5 4 8)=true:=by decide
 have dl:decide (zJ 5)=true:=by decide
 have m:Below w.heap.size w (w.alloc (.cells #[int i64 5,.string own,int i64 name,.slice i lgn j,int i64 pe,int i64 len,int i64 hei,int i64 cl,.bool all,int i64 be,int i64 unt,int i64 now] 47)):=zk bZ _;have C:=heap_alloc_new w (.cells #[int i64 5,.string own,int i64 name,.slice i lgn j,int i64 pe,int i64 len,int i64 hei,int i64 cl,.bool all,int i64 be,int i64 unt,int i64 now] 47);go_enter Tryz.func159,Tryz.ntmps159;go_upto_region 11 with(first|(go_at_call 148;refine sC (zt _ _ _ _) ?_)|(go_at_call 162;refine sC (zO _ _) ?_)|(go_at_call 160;refine sC (zV _ _) ?_))
 generalize w.alloc (.cells #[int i64 5,.string own,int i64 name,.slice i lgn j,int i64 pe,int i64 len,int i64 hei,int i64 cl,.bool all,int i64 be,int i64 unt,int i64 now] 47)=W at m C ⊢;obtain⟨I,y1,y2,J,y4,y5,y6,y7,y8,y9,x,y⟩:=zeW C;go_cut [7] (fun c B=>c=.bool (PZ pe len hei cl all be)/\B=W)
 case first =>
  by_cases gpe:pe=0
  ·subst gpe
   by_cases glen:len=0
   ·subst glen
    by_cases ghei:hei=0
    ·subst ghei
     by_cases gcl:cl=0
     ·subst gcl
      cases all with
      | true =>
       have g:PZ 0 0 0 0 true be=false:=Zw (fun h=>by cases h.2.2.2.2.1)
       go_wp2;go_meet;exact⟨by rw[g],rfl⟩
      | false =>
       by_cases gbe:be=0
       ·subst gbe
        go_wp2;go_meet;exact⟨rfl,rfl⟩
       ·have T:(be == 0)=false:=by simpa using gbe
        have g:PZ 0 0 0 0 false be=false:=Zw (fun h=>gbe h.2.2.2.2.2)
        go_wp2;go_meet;exact⟨by rw[g],rfl⟩
     ·have U:(cl == 0)=false:=by simpa using gcl
      have g:PZ 0 0 0 cl all be=false:=Zw (fun h=>gcl h.2.2.2.1)
      go_wp2;go_meet;exact⟨by rw[g],rfl⟩
    ·have N:(hei == 0)=false:=by simpa using ghei
     have g:PZ 0 0 hei cl all be=false:=Zw (fun h=>ghei h.2.2.1)
     go_wp2;go_meet;exact⟨by rw[g],rfl⟩
   ·have O:(len == 0)=false:=by simpa using glen
    have g:PZ 0 len hei cl all be=false:=Zw (fun h=>glen h.2.1)
    go_wp2;go_meet;exact⟨by rw[g],rfl⟩
  ·have Z:(pe == 0)=false:=by simpa using gpe
   have g:PZ pe len hei cl all be=false:=Zw (fun h=>gpe h.1)
   go_wp2;go_meet;exact⟨by rw[g],rfl⟩
 case rest =>
  obtain⟨rfl,v⟩:=hcut;have v:=v.symm;subst v;generalize PZ pe len hei cl all be=pz at *;go_wp2_with (first|(go_at_call 148;refine sC (zt _ _ _ _) ?_)|(go_at_call 162;refine sC (zO _ _) ?_)|(go_at_call 160;refine sC (zV _ _) ?_))
  refine(zaz pe len hei cl all be _).mono ?_;rintro e M ⟨⟨q,rfl,P⟩,n⟩;obtain rfl:bp=q:=by rw[Q.out];exact zcl (k:=5) (.inr (.inr (.inr rfl))) P
  have D:=zb C n;have a:=ze m n;clear m C n P I y1 y2 J y4 y5 y6 y7 y8 y9 x y;have I:=za D 0 _ rfl;have J:=za D 3 _ rfl;have x:=za D 10 _ rfl;have y:=za D 11 _ rfl;go_upto_region 17 with(first|(go_at_call 148;refine sC (zt _ _ _ _) ?_)|(go_at_call 162;refine sC (zO _ _) ?_)|(go_at_call 160;refine sC (zV _ _) ?_))
  go_cut [8] (fun c B=>c=.bool z/\B=M)
  case first =>
   by_cases u0:unt=0
   ·subst u0
    go_wp2;go_meet;exact⟨by rw[K.out,decide_eq_true (.inl rfl)],rfl⟩
   ·have S:(unt == 0)=false:=by simpa using u0
    have G:z=false:=by rw[K.out];exact decide_eq_false (fun h=>by rcases h with h|h;exact u0 h;exact absurd h.1 (by decide))
    go_wp2;go_meet;exact⟨by rw[G],rfl⟩
  case rest =>
   obtain⟨rfl,d⟩:=hcut;have d:=d.symm;subst d;go_upto_region 18 with(first|(go_at_call 148;refine sC (zt _ _ _ _) ?_)|(go_at_call 162;refine sC (zO _ _) ?_)|(go_at_call 160;refine sC (zV _ _) ?_))
   go_cut [9] (fun c B=>c=.bool A/\B=M)
   case first =>
    by_cases u0:now=0
    ·subst u0
     go_wp2;go_meet;exact⟨by rw[L.out,decide_eq_true (.inl rfl)],rfl⟩
    ·have S:(now == 0)=false:=by simpa using u0
     have G:A=false:=by rw[L.out];exact decide_eq_false (fun h=>by rcases h with h|h;exact u0 h;exact absurd h.1 (by decide))
     go_wp2;go_meet;exact⟨by rw[G],rfl⟩
   case rest =>
    obtain⟨rfl,f⟩:=hcut;have f:=f.symm;subst f;clear Y X V I J x y
    cases bo with
    | false =>
     go_wp2;go_ret;exact⟨by rw[l.out];simp,a⟩
    | true =>
     cases F with
     | false =>
      go_wp2;go_ret;exact⟨by rw[l.out];simp,a⟩
     | true =>
      cases E with
      | false =>
       go_wp2;go_ret;exact⟨by rw[l.out];simp,a⟩
      | true =>
       cases bp with
       | false =>
        go_wp2;go_ret;exact⟨by rw[l.out];simp,a⟩
       | true =>
        cases z with
        | false =>
         go_wp2;go_ret;exact⟨by rw[l.out];simp,a⟩
        | true =>
         cases A with
         | false =>
          go_wp2;go_ret;exact⟨by rw[l.out];simp,a⟩
         | true =>
          go_wp2;go_ret;exact⟨by rw[l.out];rfl,a⟩
theorem specOp_6 (own:ByteArray)(name:Int)(i:Option Addr)(lgn j:Nat)(lg:Nat->Int)(pe len hei cl:Int)(all:Bool)(be unt now:Int)(w:World)(_:own.size<=1000000000000000) :
  Calls Tryz.prog 159 #[.agg #[int i64 6,.string own,int i64 name,.slice i lgn j,int i64 pe,int i64 len,int i64 hei,int i64 cl,.bool all,int i64 be,int i64 unt,int i64 now]] w fun e w'=>e=.returned (.bool (decide (zac ⟨6,own,name,lgn,lg,pe,len,hei,cl,all,be,unt,now⟩)))/\Below w.heap.size w w':=by
 obtain⟨R,B⟩:∃ R,R=decide (zac ⟨6,own,name,lgn,lg,pe,len,hei,cl,all,be,unt,now⟩):=⟨_,rfl⟩;rw[← B];obtain⟨bo,p⟩:∃ b,b=decide (ZS 6 own):=⟨_,rfl⟩;obtain⟨z,o⟩:∃ b,b=decide (Qs 6 name):=⟨_,rfl⟩;obtain⟨y,n⟩:∃ b,b=decide (qi 6 lgn):=⟨_,rfl⟩;obtain⟨bp,q⟩:∃ b,b=decide (qA 6 ⟨pe,len,hei,cl,all,be⟩):=⟨_,rfl⟩;obtain⟨u,r⟩:∃ b,b=decide (Qm 6 unt):=⟨_,rfl⟩;obtain⟨v,s⟩:∃ b,b=decide (zbW 6 now):=⟨_,rfl⟩;have l:Hid (R=(bo && z && y && bp && u && v)):=by
  show R=(bo && z && y && bp && u && v)
  rw[B,p,o,n,q,r,s];exact Q8 (k:=6) (by unfold In;omega)
 clear B;have P:own.toList.isEmpty=bo:=by rw[p,zap own (k:=6) (by omega)]
 have O:decide (In name 1 30)=z:=by rw[o];exact decide_eq_decide.2 (by unfold Qs In;simp)
 have N:((lgn:Int) == 0)=y:=by rw[n,zey];exact decide_eq_decide.2 (by unfold qi zJ;simp)
 have J:=hI q;have E:=hI r;have F:=hI s;clear p o n q r s;have d9:decide (In 6 1 9)=true:=by decide
 have dn:decide (In 6 4 8)=true:=by decide
 have dl:decide (zJ 6)=false:=by decide
 have m:Below w.heap.size w (w.alloc (.cells #[int i64 6,.string own,int i64 name,.slice i lgn j,int i64 pe,int i64 len,int i64 hei,int i64 cl,.bool all,int i64 be,int i64 unt,int i64 now] 47)):=zk bZ _;have A:=heap_alloc_new w (.cells #[int i64 6,.string own,int i64 name,.slice i lgn j,int i64 pe,int i64 len,int i64 hei,int i64 cl,.bool all,int i64 be,int i64 unt,int i64 now] 47);go_enter Tryz.func159,Tryz.ntmps159;go_upto_region 11 with(first|(go_at_call 148;refine sC (zt _ _ _ _) ?_)|(go_at_call 162;refine sC (zO _ _) ?_)|(go_at_call 160;refine sC (zV _ _) ?_))
 generalize w.alloc (.cells #[int i64 6,.string own,int i64 name,.slice i lgn j,int i64 pe,int i64 len,int i64 hei,int i64 cl,.bool all,int i64 be,int i64 unt,int i64 now] 47)=W at m A ⊢;obtain⟨S,T,U,V,X,Y,Z,y7,y8,y9,C,D⟩:=zeW A;go_cut [7] (fun c x=>c=.bool (PZ pe len hei cl all be)/\x=W)
 case first =>
  by_cases gpe:pe=0
  ·subst gpe
   by_cases glen:len=0
   ·subst glen
    by_cases ghei:hei=0
    ·subst ghei
     by_cases gcl:cl=0
     ·subst gcl
      cases all with
      | true =>
       have g:PZ 0 0 0 0 true be=false:=Zw (fun h=>by cases h.2.2.2.2.1)
       go_wp2;go_meet;exact⟨by rw[g],rfl⟩
      | false =>
       by_cases gbe:be=0
       ·subst gbe
        go_wp2;go_meet;exact⟨rfl,rfl⟩
       ·have L:(be == 0)=false:=by simpa using gbe
        have g:PZ 0 0 0 0 false be=false:=Zw (fun h=>gbe h.2.2.2.2.2)
        go_wp2;go_meet;exact⟨by rw[g],rfl⟩
     ·have M:(cl == 0)=false:=by simpa using gcl
      have g:PZ 0 0 0 cl all be=false:=Zw (fun h=>gcl h.2.2.2.1)
      go_wp2;go_meet;exact⟨by rw[g],rfl⟩
    ·have G:(hei == 0)=false:=by simpa using ghei
     have g:PZ 0 0 hei cl all be=false:=Zw (fun h=>ghei h.2.2.1)
     go_wp2;go_meet;exact⟨by rw[g],rfl⟩
   ·have H:(len == 0)=false:=by simpa using glen
    have g:PZ 0 len hei cl all be=false:=Zw (fun h=>glen h.2.1)
    go_wp2;go_meet;exact⟨by rw[g],rfl⟩
  ·have Q:(pe == 0)=false:=by simpa using gpe
   have g:PZ pe len hei cl all be=false:=Zw (fun h=>gpe h.1)
   go_wp2;go_meet;exact⟨by rw[g],rfl⟩
 case rest =>
  obtain⟨rfl,t⟩:=hcut;have t:=t.symm;subst t;obtain rfl:PZ pe len hei cl all be=bp:=by rw[J.out];exact zby (k:=6) (by unfold zJ;omega)
  generalize PZ pe len hei cl all be=bp at *;have a:=m;clear m A;go_upto_region 17 with(first|(go_at_call 148;refine sC (zt _ _ _ _) ?_)|(go_at_call 162;refine sC (zO _ _) ?_)|(go_at_call 160;refine sC (zV _ _) ?_))
  go_cut [8] (fun c x=>c=.bool u/\x=W)
  case first =>
   by_cases u0:unt=0
   ·subst u0
    go_wp2;go_meet;exact⟨by rw[E.out,decide_eq_true (.inl rfl)],rfl⟩
   ·have K:(unt == 0)=false:=by simpa using u0
    have I:u=false:=by rw[E.out];exact decide_eq_false (fun h=>by rcases h with h|h;exact u0 h;exact absurd h.1 (by decide))
    go_wp2;go_meet;exact⟨by rw[I],rfl⟩
  case rest =>
   obtain⟨rfl,d⟩:=hcut;have d:=d.symm;subst d;go_upto_region 18 with(first|(go_at_call 148;refine sC (zt _ _ _ _) ?_)|(go_at_call 162;refine sC (zO _ _) ?_)|(go_at_call 160;refine sC (zV _ _) ?_))
   go_cut [9] (fun c x=>c=.bool v/\x=W)
   case first =>
    by_cases u0:now=0
    ·subst u0
     go_wp2;go_meet;exact⟨by rw[F.out,decide_eq_true (.inl rfl)],rfl⟩
    ·have K:(now == 0)=false:=by simpa using u0
     have I:decide (In now 0 10000)=v:=by rw[F.out];exact decide_eq_decide.2 ⟨fun h=>.inr ⟨.inr rfl,h⟩,fun h=>by rcases h with h|h;exact absurd h u0;exact h.2⟩
     go_wp2_with (first|(go_at_call 148;refine sC (zt _ _ _ _) ?_)|(go_at_call 162;refine sC (zO _ _) ?_)|(go_at_call 160;refine sC (zV _ _) ?_))
     go_meet;exact⟨rfl,rfl⟩
   case rest =>
    obtain⟨rfl,f⟩:=hcut;have f:=f.symm;subst f;clear P O N S T U V X Y Z y7 y8 y9 C D
    cases bo with
    | false =>
     go_wp2;go_ret;exact⟨by rw[l.out];simp,a⟩
    | true =>
     cases z with
     | false =>
      go_wp2;go_ret;exact⟨by rw[l.out];simp,a⟩
     | true =>
      cases y with
      | false =>
       go_wp2;go_ret;exact⟨by rw[l.out];simp,a⟩
      | true =>
       cases bp with
       | false =>
        go_wp2;go_ret;exact⟨by rw[l.out];simp,a⟩
       | true =>
        cases u with
        | false =>
         go_wp2;go_ret;exact⟨by rw[l.out];simp,a⟩
        | true =>
         cases v with
         | false =>
          go_wp2;go_ret;exact⟨by rw[l.out];simp,a⟩
         | true =>
          go_wp2;go_ret;exact⟨by rw[l.out];rfl,a⟩
theorem specOp_7 (own:ByteArray)(name:Int)(j:Option Addr)(lgn l:Nat)(lg:Nat->Int)(pe len hei cl:Int)(all:Bool)(be unt now:Int)(w:World)(d:own.size<=1000000000000000) :
  Calls Tryz.prog 159 #[.agg #[int i64 7,.string own,int i64 name,.slice j lgn l,int i64 pe,int i64 len,int i64 hei,int i64 cl,.bool all,int i64 be,int i64 unt,int i64 now]] w fun e w'=>e=.returned (.bool (decide (zac ⟨7,own,name,lgn,lg,pe,len,hei,cl,all,be,unt,now⟩)))/\Below w.heap.size w w':=by
 obtain⟨R,D⟩:∃ R,R=decide (zac ⟨7,own,name,lgn,lg,pe,len,hei,cl,all,be,unt,now⟩):=⟨_,rfl⟩;rw[← D];obtain⟨bo,q⟩:∃ b,b=decide (ZS 7 own):=⟨_,rfl⟩;obtain⟨A,p⟩:∃ b,b=decide (Qs 7 name):=⟨_,rfl⟩;obtain⟨z,o⟩:∃ b,b=decide (qi 7 lgn):=⟨_,rfl⟩;obtain⟨bp,r⟩:∃ b,b=decide (qA 7 ⟨pe,len,hei,cl,all,be⟩):=⟨_,rfl⟩;obtain⟨v,s⟩:∃ b,b=decide (Qm 7 unt):=⟨_,rfl⟩;obtain⟨x,t⟩:∃ b,b=decide (zbW 7 now):=⟨_,rfl⟩;have m:Hid (R=(bo && A && z && bp && v && x)):=by
  show R=(bo && A && z && bp && v && x)
  rw[D,q,p,o,r,s,t];exact Q8 (k:=7) (by unfold In;omega)
 clear D;have Q:decide (Zg own)=bo:=by rw[q];exact decide_eq_decide.2 (by unfold ZS;simp)
 have P:decide (In name 1 30)=A:=by rw[p];exact decide_eq_decide.2 (by unfold Qs In;simp)
 have O:((lgn:Int) == 0)=z:=by rw[o,zey];exact decide_eq_decide.2 (by unfold qi zJ;simp)
 have K:=hI r;have G:=hI s;have H:=hI t;clear q p o r s t;have d9:decide (In 7 1 9)=true:=by decide
 have dn:decide (In 7 4 8)=true:=by decide
 have dl:decide (zJ 7)=false:=by decide
 have n:Below w.heap.size w (w.alloc (.cells #[int i64 7,.string own,int i64 name,.slice j lgn l,int i64 pe,int i64 len,int i64 hei,int i64 cl,.bool all,int i64 be,int i64 unt,int i64 now] 47)):=zk bZ _;have B:=heap_alloc_new w (.cells #[int i64 7,.string own,int i64 name,.slice j lgn l,int i64 pe,int i64 len,int i64 hei,int i64 cl,.bool all,int i64 be,int i64 unt,int i64 now] 47);go_enter Tryz.func159,Tryz.ntmps159;go_upto_region 11 with(first|(go_at_call 148;refine sC (zt _ _ _ _) ?_)|(go_at_call 162;refine sC (zO _ _) ?_)|(go_at_call 160;refine sC (zV _ _) ?_)|(go_at_call 156;refine sC (qS _ _ d) ?_))
 generalize w.alloc (.cells #[int i64 7,.string own,int i64 name,.slice j lgn l,int i64 pe,int i64 len,int i64 hei,int i64 cl,.bool all,int i64 be,int i64 unt,int i64 now] 47)=W at n B ⊢;obtain⟨T,U,V,X,Y,Z,y6,y7,y8,y9,E,F⟩:=zeW B;go_cut [7] (fun c y=>c=.bool (PZ pe len hei cl all be)/\y=W)
 case first =>
  by_cases gpe:pe=0
  ·subst gpe
   by_cases glen:len=0
   ·subst glen
    by_cases ghei:hei=0
    ·subst ghei
     by_cases gcl:cl=0
     ·subst gcl
      cases all with
      | true =>
       have i:PZ 0 0 0 0 true be=false:=Zw (fun h=>by cases h.2.2.2.2.1)
       go_wp2;go_meet;exact⟨by rw[i],rfl⟩
      | false =>
       by_cases gbe:be=0
       ·subst gbe
        go_wp2;go_meet;exact⟨rfl,rfl⟩
       ·have M:(be == 0)=false:=by simpa using gbe
        have i:PZ 0 0 0 0 false be=false:=Zw (fun h=>gbe h.2.2.2.2.2)
        go_wp2;go_meet;exact⟨by rw[i],rfl⟩
     ·have N:(cl == 0)=false:=by simpa using gcl
      have i:PZ 0 0 0 cl all be=false:=Zw (fun h=>gcl h.2.2.2.1)
      go_wp2;go_meet;exact⟨by rw[i],rfl⟩
    ·have I:(hei == 0)=false:=by simpa using ghei
     have i:PZ 0 0 hei cl all be=false:=Zw (fun h=>ghei h.2.2.1)
     go_wp2;go_meet;exact⟨by rw[i],rfl⟩
   ·have J:(len == 0)=false:=by simpa using glen
    have i:PZ 0 len hei cl all be=false:=Zw (fun h=>glen h.2.1)
    go_wp2;go_meet;exact⟨by rw[i],rfl⟩
  ·have S:(pe == 0)=false:=by simpa using gpe
   have i:PZ pe len hei cl all be=false:=Zw (fun h=>gpe h.1)
   go_wp2;go_meet;exact⟨by rw[i],rfl⟩
 case rest =>
  obtain⟨rfl,u⟩:=hcut;have u:=u.symm;subst u;obtain rfl:PZ pe len hei cl all be=bp:=by rw[K.out];exact zby (k:=7) (by unfold zJ;omega)
  generalize PZ pe len hei cl all be=bp at *;have a:=n;clear n B;go_upto_region 17 with(first|(go_at_call 148;refine sC (zt _ _ _ _) ?_)|(go_at_call 162;refine sC (zO _ _) ?_)|(go_at_call 160;refine sC (zV _ _) ?_)|(go_at_call 156;refine sC (qS _ _ d) ?_))
  go_cut [8] (fun c y=>c=.bool v/\y=W)
  case first =>
   by_cases u0:unt=0
   ·subst u0
    go_wp2;go_meet;exact⟨by rw[G.out,decide_eq_true (.inl rfl)],rfl⟩
   ·have L:(unt == 0)=false:=by simpa using u0
    have C:v=false:=by rw[G.out];exact decide_eq_false (fun h=>by rcases h with h|h;exact u0 h;exact absurd h.1 (by decide))
    go_wp2;go_meet;exact⟨by rw[C],rfl⟩
  case rest =>
   obtain⟨rfl,f⟩:=hcut;have f:=f.symm;subst f;go_upto_region 18 with(first|(go_at_call 148;refine sC (zt _ _ _ _) ?_)|(go_at_call 162;refine sC (zO _ _) ?_)|(go_at_call 160;refine sC (zV _ _) ?_)|(go_at_call 156;refine sC (qS _ _ d) ?_))
   go_cut [9] (fun c y=>c=.bool x/\y=W)
   case first =>
    by_cases u0:now=0
    ·subst u0
     go_wp2;go_meet;exact⟨by rw[H.out,decide_eq_true (.inl rfl)],rfl⟩
    ·have L:(now == 0)=false:=by simpa using u0
     have C:x=false:=by rw[H.out];exact decide_eq_false (fun h=>by rcases h with h|h;exact u0 h;exact absurd h.1 (by decide))
     go_wp2;go_meet;exact⟨by rw[C],rfl⟩
   case rest =>
    obtain⟨rfl,g⟩:=hcut;have g:=g.symm;subst g;clear Q P O T U V X Y Z y6 y7 y8 y9 E F
    cases bo with
    | false =>
     go_wp2;go_ret;exact⟨by rw[m.out];simp,a⟩
    | true =>
     cases A with
     | false =>
      go_wp2;go_ret;exact⟨by rw[m.out];simp,a⟩
     | true =>
      cases z with
      | false =>
       go_wp2;go_ret;exact⟨by rw[m.out];simp,a⟩
      | true =>
       cases bp with
       | false =>
        go_wp2;go_ret;exact⟨by rw[m.out];simp,a⟩
       | true =>
        cases v with
        | false =>
         go_wp2;go_ret;exact⟨by rw[m.out];simp,a⟩
        | true =>
         cases x with
         | false =>
          go_wp2;go_ret;exact⟨by rw[m.out];simp,a⟩
         | true =>
          go_wp2;go_ret;exact⟨by rw[m.out];rfl,a⟩
theorem specOp_8 (own:ByteArray)(name:Int)(i:Option Addr)(lgn j:Nat)(lg:Nat->Int)(pe len hei cl:Int)(all:Bool)(be unt now:Int)(w:World)(_:own.size<=1000000000000000) :
  Calls Tryz.prog 159 #[.agg #[int i64 8,.string own,int i64 name,.slice i lgn j,int i64 pe,int i64 len,int i64 hei,int i64 cl,.bool all,int i64 be,int i64 unt,int i64 now]] w fun e w'=>e=.returned (.bool (decide (zac ⟨8,own,name,lgn,lg,pe,len,hei,cl,all,be,unt,now⟩)))/\Below w.heap.size w w':=by
 obtain⟨R,B⟩:∃ R,R=decide (zac ⟨8,own,name,lgn,lg,pe,len,hei,cl,all,be,unt,now⟩):=⟨_,rfl⟩;rw[← B];obtain⟨bo,p⟩:∃ b,b=decide (ZS 8 own):=⟨_,rfl⟩;obtain⟨z,o⟩:∃ b,b=decide (Qs 8 name):=⟨_,rfl⟩;obtain⟨y,n⟩:∃ b,b=decide (qi 8 lgn):=⟨_,rfl⟩;obtain⟨bp,q⟩:∃ b,b=decide (qA 8 ⟨pe,len,hei,cl,all,be⟩):=⟨_,rfl⟩;obtain⟨u,r⟩:∃ b,b=decide (Qm 8 unt):=⟨_,rfl⟩;obtain⟨v,s⟩:∃ b,b=decide (zbW 8 now):=⟨_,rfl⟩;have l:Hid (R=(bo && z && y && bp && u && v)):=by
  show R=(bo && z && y && bp && u && v)
  rw[B,p,o,n,q,r,s];exact Q8 (k:=8) (by unfold In;omega)
 clear B;have P:own.toList.isEmpty=bo:=by rw[p,zap own (k:=8) (by omega)]
 have O:decide (In name 1 30)=z:=by rw[o];exact decide_eq_decide.2 (by unfold Qs In;simp)
 have N:((lgn:Int) == 0)=y:=by rw[n,zey];exact decide_eq_decide.2 (by unfold qi zJ;simp)
 have J:=hI q;have E:=hI r;have F:=hI s;clear p o n q r s;have d9:decide (In 8 1 9)=true:=by decide
 have dn:decide (In 8 4 8)=true:=by decide
 have dl:decide (zJ 8)=false:=by decide
 have m:Below w.heap.size w (w.alloc (.cells #[int i64 8,.string own,int i64 name,.slice i lgn j,int i64 pe,int i64 len,int i64 hei,int i64 cl,.bool all,int i64 be,int i64 unt,int i64 now] 47)):=zk bZ _;have A:=heap_alloc_new w (.cells #[int i64 8,.string own,int i64 name,.slice i lgn j,int i64 pe,int i64 len,int i64 hei,int i64 cl,.bool all,int i64 be,int i64 unt,int i64 now] 47);go_enter Tryz.func159,Tryz.ntmps159;go_upto_region 11 with(first|(go_at_call 148;refine sC (zt _ _ _ _) ?_)|(go_at_call 162;refine sC (zO _ _) ?_)|(go_at_call 160;refine sC (zV _ _) ?_))
 generalize w.alloc (.cells #[int i64 8,.string own,int i64 name,.slice i lgn j,int i64 pe,int i64 len,int i64 hei,int i64 cl,.bool all,int i64 be,int i64 unt,int i64 now] 47)=W at m A ⊢;obtain⟨S,T,U,V,X,Y,Z,y7,y8,y9,C,D⟩:=zeW A;go_cut [7] (fun c x=>c=.bool (PZ pe len hei cl all be)/\x=W)
 case first =>
  by_cases gpe:pe=0
  ·subst gpe
   by_cases glen:len=0
   ·subst glen
    by_cases ghei:hei=0
    ·subst ghei
     by_cases gcl:cl=0
     ·subst gcl
      cases all with
      | true =>
       have g:PZ 0 0 0 0 true be=false:=Zw (fun h=>by cases h.2.2.2.2.1)
       go_wp2;go_meet;exact⟨by rw[g],rfl⟩
      | false =>
       by_cases gbe:be=0
       ·subst gbe
        go_wp2;go_meet;exact⟨rfl,rfl⟩
       ·have L:(be == 0)=false:=by simpa using gbe
        have g:PZ 0 0 0 0 false be=false:=Zw (fun h=>gbe h.2.2.2.2.2)
        go_wp2;go_meet;exact⟨by rw[g],rfl⟩
     ·have M:(cl == 0)=false:=by simpa using gcl
      have g:PZ 0 0 0 cl all be=false:=Zw (fun h=>gcl h.2.2.2.1)
      go_wp2;go_meet;exact⟨by rw[g],rfl⟩
    ·have G:(hei == 0)=false:=by simpa using ghei
     have g:PZ 0 0 hei cl all be=false:=Zw (fun h=>ghei h.2.2.1)
     go_wp2;go_meet;exact⟨by rw[g],rfl⟩
   ·have H:(len == 0)=false:=by simpa using glen
    have g:PZ 0 len hei cl all be=false:=Zw (fun h=>glen h.2.1)
    go_wp2;go_meet;exact⟨by rw[g],rfl⟩
  ·have Q:(pe == 0)=false:=by simpa using gpe
   have g:PZ pe len hei cl all be=false:=Zw (fun h=>gpe h.1)
   go_wp2;go_meet;exact⟨by rw[g],rfl⟩
 case rest =>
  obtain⟨rfl,t⟩:=hcut;have t:=t.symm;subst t;obtain rfl:PZ pe len hei cl all be=bp:=by rw[J.out];exact zby (k:=8) (by unfold zJ;omega)
  generalize PZ pe len hei cl all be=bp at *;have a:=m;clear m A;go_upto_region 17 with(first|(go_at_call 148;refine sC (zt _ _ _ _) ?_)|(go_at_call 162;refine sC (zO _ _) ?_)|(go_at_call 160;refine sC (zV _ _) ?_))
  go_cut [8] (fun c x=>c=.bool u/\x=W)
  case first =>
   by_cases u0:unt=0
   ·subst u0
    go_wp2;go_meet;exact⟨by rw[E.out,decide_eq_true (.inl rfl)],rfl⟩
   ·have K:(unt == 0)=false:=by simpa using u0
    have I:u=false:=by rw[E.out];exact decide_eq_false (fun h=>by rcases h with h|h;exact u0 h;exact absurd h.1 (by decide))
    go_wp2;go_meet;exact⟨by rw[I],rfl⟩
  case rest =>
   obtain⟨rfl,d⟩:=hcut;have d:=d.symm;subst d;go_upto_region 18 with(first|(go_at_call 148;refine sC (zt _ _ _ _) ?_)|(go_at_call 162;refine sC (zO _ _) ?_)|(go_at_call 160;refine sC (zV _ _) ?_))
   go_cut [9] (fun c x=>c=.bool v/\x=W)
   case first =>
    by_cases u0:now=0
    ·subst u0
     go_wp2;go_meet;exact⟨by rw[F.out,decide_eq_true (.inl rfl)],rfl⟩
    ·have K:(now == 0)=false:=by simpa using u0
     have I:decide (In now 0 10000)=v:=by rw[F.out];exact decide_eq_decide.2 ⟨fun h=>.inr ⟨.inl rfl,h⟩,fun h=>by rcases h with h|h;exact absurd h u0;exact h.2⟩
     go_wp2_with (first|(go_at_call 148;refine sC (zt _ _ _ _) ?_)|(go_at_call 162;refine sC (zO _ _) ?_)|(go_at_call 160;refine sC (zV _ _) ?_))
     go_meet;exact⟨rfl,rfl⟩
   case rest =>
    obtain⟨rfl,f⟩:=hcut;have f:=f.symm;subst f;clear P O N S T U V X Y Z y7 y8 y9 C D
    cases bo with
    | false =>
     go_wp2;go_ret;exact⟨by rw[l.out];simp,a⟩
    | true =>
     cases z with
     | false =>
      go_wp2;go_ret;exact⟨by rw[l.out];simp,a⟩
     | true =>
      cases y with
      | false =>
       go_wp2;go_ret;exact⟨by rw[l.out];simp,a⟩
      | true =>
       cases bp with
       | false =>
        go_wp2;go_ret;exact⟨by rw[l.out];simp,a⟩
       | true =>
        cases u with
        | false =>
         go_wp2;go_ret;exact⟨by rw[l.out];simp,a⟩
        | true =>
         cases v with
         | false =>
          go_wp2;go_ret;exact⟨by rw[l.out];simp,a⟩
         | true =>
          go_wp2;go_ret;exact⟨by rw[l.out];rfl,a⟩
theorem specOp_9 (own:ByteArray)(name:Int)(i:Option Addr)(lgn j:Nat)(lg:Nat->Int)(pe len hei cl:Int)(all:Bool)(be unt now:Int)(w:World)(_:own.size<=1000000000000000) :
  Calls Tryz.prog 159 #[.agg #[int i64 9,.string own,int i64 name,.slice i lgn j,int i64 pe,int i64 len,int i64 hei,int i64 cl,.bool all,int i64 be,int i64 unt,int i64 now]] w fun e w'=>e=.returned (.bool (decide (zac ⟨9,own,name,lgn,lg,pe,len,hei,cl,all,be,unt,now⟩)))/\Below w.heap.size w w':=by
 obtain⟨R,C⟩:∃ R,R=decide (zac ⟨9,own,name,lgn,lg,pe,len,hei,cl,all,be,unt,now⟩):=⟨_,rfl⟩;rw[← C];obtain⟨bo,p⟩:∃ b,b=decide (ZS 9 own):=⟨_,rfl⟩;obtain⟨z,o⟩:∃ b,b=decide (Qs 9 name):=⟨_,rfl⟩;obtain⟨y,n⟩:∃ b,b=decide (qi 9 lgn):=⟨_,rfl⟩;obtain⟨bp,q⟩:∃ b,b=decide (qA 9 ⟨pe,len,hei,cl,all,be⟩):=⟨_,rfl⟩;obtain⟨u,r⟩:∃ b,b=decide (Qm 9 unt):=⟨_,rfl⟩;obtain⟨v,s⟩:∃ b,b=decide (zbW 9 now):=⟨_,rfl⟩;have l:Hid (R=(bo && z && y && bp && u && v)):=by
  show R=(bo && z && y && bp && u && v)
  rw[C,p,o,n,q,r,s];exact Q8 (k:=9) (by unfold In;omega)
 clear C;have P:own.toList.isEmpty=bo:=by rw[p,zap own (k:=9) (by omega)]
 have O:(name == 0)=z:=by rw[o,zds name (k:=9) (by unfold In;omega)]
 have N:((lgn:Int) == 1)=y:=by rw[n,int_one];exact decide_eq_decide.2 (by unfold qi zJ;simp)
 have J:=hI q;have F:=hI r;have G:=hI s;clear p o n q r s;have d9:decide (In 9 1 9)=true:=by decide
 have dn:decide (In 9 4 8)=false:=by decide
 have dl:decide (zJ 9)=false:=by decide
 have m:Below w.heap.size w (w.alloc (.cells #[int i64 9,.string own,int i64 name,.slice i lgn j,int i64 pe,int i64 len,int i64 hei,int i64 cl,.bool all,int i64 be,int i64 unt,int i64 now] 47)):=zk bZ _;have A:=heap_alloc_new w (.cells #[int i64 9,.string own,int i64 name,.slice i lgn j,int i64 pe,int i64 len,int i64 hei,int i64 cl,.bool all,int i64 be,int i64 unt,int i64 now] 47);go_enter Tryz.func159,Tryz.ntmps159;go_upto_region 11 with(first|(go_at_call 148;refine sC (zt _ _ _ _) ?_)|(go_at_call 162;refine sC (zO _ _) ?_)|(go_at_call 160;refine sC (zV _ _) ?_))
 generalize w.alloc (.cells #[int i64 9,.string own,int i64 name,.slice i lgn j,int i64 pe,int i64 len,int i64 hei,int i64 cl,.bool all,int i64 be,int i64 unt,int i64 now] 47)=W at m A ⊢;obtain⟨S,T,U,V,X,Y,Z,y7,y8,y9,D,E⟩:=zeW A;go_cut [7] (fun c x=>c=.bool (PZ pe len hei cl all be)/\x=W)
 case first =>
  by_cases gpe:pe=0
  ·subst gpe
   by_cases glen:len=0
   ·subst glen
    by_cases ghei:hei=0
    ·subst ghei
     by_cases gcl:cl=0
     ·subst gcl
      cases all with
      | true =>
       have g:PZ 0 0 0 0 true be=false:=Zw (fun h=>by cases h.2.2.2.2.1)
       go_wp2;go_meet;exact⟨by rw[g],rfl⟩
      | false =>
       by_cases gbe:be=0
       ·subst gbe
        go_wp2;go_meet;exact⟨rfl,rfl⟩
       ·have L:(be == 0)=false:=by simpa using gbe
        have g:PZ 0 0 0 0 false be=false:=Zw (fun h=>gbe h.2.2.2.2.2)
        go_wp2;go_meet;exact⟨by rw[g],rfl⟩
     ·have M:(cl == 0)=false:=by simpa using gcl
      have g:PZ 0 0 0 cl all be=false:=Zw (fun h=>gcl h.2.2.2.1)
      go_wp2;go_meet;exact⟨by rw[g],rfl⟩
    ·have H:(hei == 0)=false:=by simpa using ghei
     have g:PZ 0 0 hei cl all be=false:=Zw (fun h=>ghei h.2.2.1)
     go_wp2;go_meet;exact⟨by rw[g],rfl⟩
   ·have I:(len == 0)=false:=by simpa using glen
    have g:PZ 0 len hei cl all be=false:=Zw (fun h=>glen h.2.1)
    go_wp2;go_meet;exact⟨by rw[g],rfl⟩
  ·have Q:(pe == 0)=false:=by simpa using gpe
   have g:PZ pe len hei cl all be=false:=Zw (fun h=>gpe h.1)
   go_wp2;go_meet;exact⟨by rw[g],rfl⟩
 case rest =>
  obtain⟨rfl,t⟩:=hcut;have t:=t.symm;subst t;obtain rfl:PZ pe len hei cl all be=bp:=by rw[J.out];exact zby (k:=9) (by unfold zJ;omega)
  generalize PZ pe len hei cl all be=bp at *;have a:=m;clear m A;go_upto_region 17 with(first|(go_at_call 148;refine sC (zt _ _ _ _) ?_)|(go_at_call 162;refine sC (zO _ _) ?_)|(go_at_call 160;refine sC (zV _ _) ?_))
  go_cut [8] (fun c x=>c=.bool u/\x=W)
  case first =>
   by_cases u0:unt=0
   ·subst u0
    go_wp2;go_meet;exact⟨by rw[F.out,decide_eq_true (.inl rfl)],rfl⟩
   ·have K:(unt == 0)=false:=by simpa using u0
    have B:u=false:=by rw[F.out];exact decide_eq_false (fun h=>by rcases h with h|h;exact u0 h;exact absurd h.1 (by decide))
    go_wp2;go_meet;exact⟨by rw[B],rfl⟩
  case rest =>
   obtain⟨rfl,d⟩:=hcut;have d:=d.symm;subst d;go_upto_region 18 with(first|(go_at_call 148;refine sC (zt _ _ _ _) ?_)|(go_at_call 162;refine sC (zO _ _) ?_)|(go_at_call 160;refine sC (zV _ _) ?_))
   go_cut [9] (fun c x=>c=.bool v/\x=W)
   case first =>
    by_cases u0:now=0
    ·subst u0
     go_wp2;go_meet;exact⟨by rw[G.out,decide_eq_true (.inl rfl)],rfl⟩
    ·have K:(now == 0)=false:=by simpa using u0
     have B:v=false:=by rw[G.out];exact decide_eq_false (fun h=>by rcases h with h|h;exact u0 h;exact absurd h.1 (by decide))
     go_wp2;go_meet;exact⟨by rw[B],rfl⟩
   case rest =>
    obtain⟨rfl,f⟩:=hcut;have f:=f.symm;subst f;clear P O N S T U V X Y Z y7 y8 y9 D E
    cases bo with
    | false =>
     go_wp2;go_ret;exact⟨by rw[l.out];simp,a⟩
    | true =>
     cases z with
     | false =>
      go_wp2;go_ret;exact⟨by rw[l.out];simp,a⟩
     | true =>
      cases y with
      | false =>
       go_wp2;go_ret;exact⟨by rw[l.out];simp,a⟩
      | true =>
       cases bp with
       | false =>
        go_wp2;go_ret;exact⟨by rw[l.out];simp,a⟩
       | true =>
        cases u with
        | false =>
         go_wp2;go_ret;exact⟨by rw[l.out];simp,a⟩
        | true =>
         cases v with
         | false =>
          go_wp2;go_ret;exact⟨by rw[l.out];simp,a⟩
         | true =>
          go_wp2;go_ret;exact⟨by rw[l.out];rfl,a⟩
end Go.Proofs.YtmdnjgihooflfaaGreatDoor
