/-
  OWN TEXT: ReadI, ReadB, PlainRs, PairsR, SailInI.
-/
import Derived.Test.YtfallpinmhbemaaGreatDoorB40
namespace Go.Proofs.YtfallpinmhbemaaGreatDoor
open Go.RowKit
open Go.Value (int)
open Go.IntKind (i64)
set_option maxHeartbeats 64000000
set_option maxRecDepth 100000
def noOp:OpR:=⟨0,⟨#[]⟩,0,.slice none 0 0,[],ZA,0,0⟩
def AnsOp (s:ByteArray)(x y:OpR)(ok:Bool):Prop:=(ok=true/\qn x.d/\opT x.d=s/\y=x)∨(ok=false/\¬ (qn x.d/\opT x.d=s)/\y=noOp)
structure zfx (s:ByteArray)(w w':World)(y:OpR)(ok:Bool):Prop where
 ans:∃ x,AnsOp s x y ok/\∀ z,qn z->opT z=s->zgy x.d z
 own:w'.ownsRow w.heap.size 3 1 y.v y.L.length (QK y.L)
 few:y.L.length<=4194304
 bel:Below w.heap.size w w'
def ReadPost (s:ByteArray)(w:World)(e:Ending)(w':World):Prop:=∃ y ok,e=.returned (.tuple #[.agg y.cs,.bool ok])/\zfx s w w' y ok
theorem legs_few {l:List ByteArray}{x:OpR}(h:zhR l x)(hl:∀ q,q ∈ l->q.size<=1048576):x.L.length<=1048577/\x.own.size<=1048576:=by
 have a:∀ q,q ∈ wd1 l->q ∈ l:=fun q e=>List.mem_of_mem_tail e
 have d:∀ (b:Bool) (L:List ByteArray),(∀ q,q ∈ L->q ∈ l)->∀ q,q ∈ nx b L->q ∈ l:=fun b L f q e=>by
  unfold nx at e
  split at e
  ·exact f q (List.mem_of_mem_tail e)
  ·exact f q e
 have g:∀ L:List ByteArray,(∀ q,q ∈ L->q ∈ l)->(hd L).size<=1048576:=fun L f=>by
  unfold hd
  cases L with
  | nil=>exact Nat.zero_le _
  | cons q r=>exact hl q (f q (by simp))
 constructor
 ·cases c:decide (0<qx (Zl (hd l))) with
  | true =>
   have h1:=(h.legs.1 c).1;have h2:=g (wd3 (Zl (hd l)) l) (d _ _ (d _ _ a))
   omega
  | false=>rw[h.legs.2 c];simp
 ·rw[h.own]
  split
  ·exact g _ (d _ _ a)
  ·exact Nat.zero_le _
theorem zgC (s:ByteArray)(w:World)(hs:s.size<=1048576)(hP:Ze w)(hF:Qb w)(hW:Qc w) :
  Calls Tryz.prog 7 #[.string s] w fun e w'=>ReadPost s w e w':=by
 have I:Hid (Ze w/\Qb w/\Qc w):=⟨hP,hF,hW⟩;have a3:4<w.heap.size/\0<w.heap.size/\1<w.heap.size:=⟨by
  have h:=hP;unfold Ze Lib.TabIs World.var? at h;rw[Tryz.gPow] at h;simp only[Option.bind_some] at h
  rcases Nat.lt_or_ge 4 w.heap.size with h'|h'
  ·exact h'
  ·rw[Array.getElem?_eq_none h'] at h;simp at h,hF.lt,hW.lt⟩
 clear hP hF hW;have Y:=heap_alloc_new w (.cells #[int i64 0,.string ⟨#[]⟩,int i64 0,.slice none 0 0,int i64 0,int i64 0,int i64 0,int i64 0,.bool false,int i64 0,int i64 0,int i64 0] 27);have n:Below w.heap.size w (w.alloc (.cells #[int i64 0,.string ⟨#[]⟩,int i64 0,.slice none 0 0,int i64 0,int i64 0,int i64 0,int i64 0,.bool false,int i64 0,int i64 0,int i64 0] 27)):=zr bZ _;go_enter Tryz.func7,Tryz.ntmps7;go_upto_region 1 with fail;generalize w.alloc (.cells #[int i64 0,.string ⟨#[]⟩,int i64 0,.slice none 0 0,int i64 0,int i64 0,int i64 0,int i64 0,.bool false,int i64 0,int i64 0,int i64 0] 27)=W at Y n ⊢;have b9:=n.size;go_wp2_with fail;refine(zdB s _ hs).mono ?_;rintro e w1 ⟨b,l,rfl,a2,j,o⟩;have a:=zj n o;have U:=zc Y o;have HL:Hid (∀ q,q ∈ l->q.size<=1048576):=fun q hq=>by have:=zdd j.out.2.1 q hq;omega
 have a5:=o.size;go_wp2_with fail;refine(opIn_any b l _ HL.out j.out.1 (I.out.1.below a) (I.out.2.1.below a) (I.out.2.2.below a) (by omega) (by omega) (by omega)).mono ?_
 rintro e G ⟨x,rfl,B,u,A⟩;have X:¬ w.heap.size=b:=by have:=zZ Y;omega
 have C:=A.blk U X;have S:Below w.heap.size w G:=zA.below a a.size A (fun k e=>by have e:k=b:=e;omega)
 have r:=hI (legs_few u.out HL.out);have N:Hid (∀ z,qn z->opT z=s->zgy x.d z):=fun z hz e=>read_back hz (by rw[e];exact j.out.2.1) u.out
 have Q:=hI (zE B a.size);obtain⟨g,vc,hv,a6,a7,a8⟩:=zt B;have HV:=hI hv;have y:x.cs=#[int i64 x.kind,.string x.own,int i64 x.name,.slice g x.L.length vc,int i64 x.p.pe,int i64 x.p.len,int i64 x.p.hei,int i64 x.p.cl,.bool x.p.all,int i64 x.p.be,int i64 x.unt,int i64 x.now]:=by unfold OpR.cs;rw[hv]
 rw[y];have O:=hI y;clear Y n o a U a5 j HL u A X B hv y a2 a3;have b3:=heap_alloc_new G (.cells #[int i64 x.kind,.string x.own,int i64 x.name,.slice g x.L.length vc,int i64 x.p.pe,int i64 x.p.len,int i64 x.p.hei,int i64 x.p.cl,.bool x.p.all,int i64 x.p.be,int i64 x.unt,int i64 x.now] 27);have M:Below G.heap.size G (G.alloc (.cells #[int i64 x.kind,.string x.own,int i64 x.name,.slice g x.L.length vc,int i64 x.p.pe,int i64 x.p.len,int i64 x.p.hei,int i64 x.p.cl,.bool x.p.all,int i64 x.p.be,int i64 x.unt,int i64 x.now] 27)):=zr bZ _;go_upto_region 2 with fail;generalize G.alloc (.cells #[int i64 x.kind,.string x.own,int i64 x.name,.slice g x.L.length vc,int i64 x.p.pe,int i64 x.p.len,int i64 x.p.hei,int i64 x.p.cl,.bool x.p.all,int i64 x.p.be,int i64 x.unt,int i64 x.now] 27)=W3 at b3 M ⊢;have c:=zj S M;have V:=zc C M;have t:=hI (zm M Q.out);have b7:=zZ C;have P:Hid (OpD.Is W3 [int i64 x.kind,.string x.own,int i64 x.name,.slice g x.L.length vc,int i64 x.p.pe,int i64 x.p.len,int i64 x.p.hei,int i64 x.p.cl,.bool x.p.all,int i64 x.p.be,int i64 x.unt,int i64 x.now] x.d):=⟨g,vc,rfl,own_ints (by have h:=t.out;rw[HV.out] at h;exact h),⟨a6,a7,a8⟩⟩
 obtain⟨y0,y1,y2,y3,y4,y5,y6,y7,y8,y9,a9,b0⟩:=ce12 b3;generalize K:zbj x.d=T;generalize hH:ziv x.d=H;have ct:=zcK [int i64 x.kind,.string x.own,int i64 x.name,.slice g x.L.length vc,int i64 x.p.pe,int i64 x.p.len,int i64 x.p.hei,int i64 x.p.cl,.bool x.p.all,int i64 x.p.be,int i64 x.unt,int i64 x.now] x.d W3 (by have h:=r.out.2;show x.own.size<=_;omega) P.out (by have h:=r.out.1;show x.L.length<=_;omega) (I.out.1.below c) (I.out.2.1.below c) (I.out.2.2.below c)
 rw[K,hH] at ct;have i:Hid (zbj x.d=T/\ziv x.d=H):=⟨K,hH⟩;clear K hH;go_wp2_with fail;refine ct.mono ?_;clear ct;rintro e w4 ⟨rfl,d⟩;have m:=zj c d;have f:=zc V d;have b4:=zc b3 d;have R:=hI (zm d t.out);clear y0 y1 y2 y3 y4 y5 y6 y7 y8 y9 a9 b0 S c C V b3 M d Q t P;have b8:¬ w.heap.size=G.heap.size:=by omega
 obtain⟨s0,s1,s2,s3,s4,s5,s6,s7,s8,s9,c2,c3⟩:=ce12 f;obtain⟨g0,g1,g2,g3,g4,g5,g6,g7,g8,g9,b5,b6⟩:=fe12 f
 by_cases hok:H=true/\T=s
 case neg =>
  have a1:Hid (¬ (qn x.d/\opT x.d=s)):=fun h=>hok (by
   have J:=zav h.1;rw[i.out.1,i.out.2] at J;exact⟨J.2,by rw[J.1];exact h.2⟩)
  have rF:=box_12 f (int i64 0) (.string ⟨#[]⟩) (int i64 0) (.slice none 0 0) (int i64 0) (int i64 0) (int i64 0) (int i64 0) (.bool false) (int i64 0) (int i64 0) (int i64 0);have L:=zhw w4 w.heap.size (int i64 0) (.string ⟨#[]⟩) (int i64 0) (.slice none 0 0) (int i64 0) (int i64 0) (int i64 0) (int i64 0) (.bool false) (int i64 0) (int i64 0) (int i64 0);have Z:Hid (zfx s w _ noOp false):=⟨⟨x,.inr ⟨rfl,a1.out,rfl⟩,N.out⟩,World.ownsRow_nil _ _ _ _,Nat.zero_le _,zA.below m m.size L (fun k e=>by have e:k=w.heap.size:=e;omega)⟩
  clear L;go_upto_region 3 with fail;go_cut [21] (fun v wx=>v=.bool true/\wx=w4)
  case first =>
   cases H with
   | false =>
    go_wp2;go_meet;exact⟨rfl,rfl⟩
   | true =>
    have K:T≠s:=fun e=>hok ⟨rfl,e⟩
    have et:(T.toList == s.toList)=false:=zaz.2 K;clear K hok;go_wp2;go_meet;exact⟨rfl,rfl⟩
  case rest =>
  obtain⟨rfl,D⟩:=hcut;have D:=D.symm;subst D;clear hok;go_wp2;obtain⟨t0,t1,t2,t3,t4,t5,t6,t7,t8,t9,E,F⟩:=ce12 rF;refine bodyPost_ret (v:=.tuple #[.agg #[int i64 0,.string ⟨#[]⟩,int i64 0,.slice none 0 0,int i64 0,int i64 0,int i64 0,int i64 0,.bool false,int i64 0,int i64 0,int i64 0],.bool false]) (by simp[results,Tryz.results7,go_sem,t0,t1,t2,t3,t4,t5,t6,t7,t8,t9,E,F]) rfl ?_
  exact⟨noOp,false,rfl,Z.out⟩
 case pos =>
  obtain⟨rfl,rfl⟩:=hok;have p:Hid (qn x.d/\opT x.d=T):=by
   have J:qn x.d:=(zfk x.d).1 i.out.2;have h2:=(zav J).1;rw[i.out.1] at h2;exact⟨J,h2.symm⟩
  have et:(T.toList == T.toList)=true:=by simp
  obtain⟨p0,p1,p2,M,p4,p5,p6,p7,p8,p9,c0,c1⟩:=ce12 b4;have rF:=box_12 f (int i64 x.kind) (.string x.own) (int i64 x.name) (.slice g x.L.length vc) (int i64 x.p.pe) (int i64 x.p.len) (int i64 x.p.hei) (int i64 x.p.cl) (.bool x.p.all) (int i64 x.p.be) (int i64 x.unt) (int i64 x.now);have L:=zhw w4 w.heap.size (int i64 x.kind) (.string x.own) (int i64 x.name) (.slice g x.L.length vc) (int i64 x.p.pe) (int i64 x.p.len) (int i64 x.p.hei) (int i64 x.p.cl) (.bool x.p.all) (int i64 x.p.be) (int i64 x.unt) (int i64 x.now);have a0:Hid (zfx T w _ x true):=⟨⟨x,.inl ⟨rfl,p.out.1,p.out.2,rfl⟩,N.out⟩,L.own R.out (Zt R.out f (by decide)),by have:=r.out.1;omega,zA.below m m.size L (fun k e=>by have e:k=w.heap.size:=e;omega)⟩
  clear L;go_wp2;obtain⟨t0,t1,t2,t3,t4,t5,t6,t7,t8,t9,E,F⟩:=ce12 rF;refine bodyPost_ret (v:=.tuple #[.agg #[int i64 x.kind,.string x.own,int i64 x.name,.slice g x.L.length vc,int i64 x.p.pe,int i64 x.p.len,int i64 x.p.hei,int i64 x.p.cl,.bool x.p.all,int i64 x.p.be,int i64 x.unt,int i64 x.now],.bool true]) (by simp[results,Tryz.results7,go_sem,t0,t1,t2,t3,t4,t5,t6,t7,t8,t9,E,F]) rfl ?_
  exact⟨x,true,by rw[O.out],a0.out⟩
theorem same_text {a b:OpD}(e:zgy a b)(h:qn b):qn a/\opT a=opT b:=by
 obtain⟨k,o,n,ln,f,p1,p2,p3,p4,p5,p6,u,v⟩:=b;obtain⟨k',o',n',c,t,q1,q2,q3,q4,q5,q6,u',v'⟩:=a;obtain⟨l,m,p,q,g,j,r,s⟩:=e;dsimp only[OpD.p] at l m p q g j r s;simp only[Zf.mk.injEq] at j;obtain⟨rfl,rfl,rfl,rfl,rfl,rfl⟩:=j;subst l m p q r s;have hl:ZB c t=ZB c f:=by
  unfold ZB
  congr 1
  refine List.map_congr_left fun i d=>?_
  rw[g i (List.mem_range.1 d)]
 refine⟨⟨h.1,fun i d=>?_⟩,?_⟩
 ·have:=h.2 i d
  dsimp only at this ⊢;rw[g i d];exact this
 ·unfold opT zcv zcg zbX zbW
  dsimp only;rw[hl]
  rfl
theorem read_op {y:OpD}{w w':World}{z:OpR}{ok:Bool}(h:zfx (opT y) w w' z ok)(c:qn y):ok=true/\zgy z.d y:=by
 obtain⟨x,a,b⟩:=h.ans;have e:=b y c rfl;have t:=same_text e c
 rcases a with⟨rfl,_,_,rfl⟩|⟨_,n,_⟩
 ·exact⟨rfl,e⟩
 ·exact absurd t n
def wd (W:List ByteArray)(i:Nat):ByteArray:=W.getD i ⟨#[]⟩
noncomputable def prs (l:List ByteArray):qi:=⟨l.length,fun i=>zI (Z4 47 (wd l i)),fun i=>zI (Z5 47 (wd l i))⟩
def PRd (s:ByteArray)(l:List ByteArray):Prop:=l.length<=s.size+1/\((s=⟨#[45]⟩/\l=[])∨(s≠⟨#[45]⟩/\Q2 44 s l))
noncomputable def readS (W la lc:List ByteArray):Sail:=⟨zI (wd W 1),wd W 2,wd W 3,zI (wd W 4),zI (wd W 5),prs la,prs lc,zI (wd W 6)⟩
def zhz (p q:qi):Prop:=p.n=q.n/\∀ i,i<q.n->p.A i=q.A i/\p.B i=q.B i
structure zhS (x y:Sail):Prop where
 id:x.id=y.id
 fr:x.fr=y.fr
 dst:x.dst=y.dst
 dep:x.dep=y.dep
 arr:x.arr=y.arr
 most:x.most=y.most
 la:zhz x.la y.la
 ca:zhz x.ca y.ca
theorem zhz.good {p q:qi}{m:Nat}{a b c d:Int}(h:zhz p q)(k:ZG q m a b c d):ZG p m a b c d:=⟨by rw[h.1];exact k.1,fun i e=>by
 rw[h.1] at e;rw[(h.2 i e).1,(h.2 i e).2];exact k.2 i e⟩
theorem zhz.text {p q:qi}(h:zhz p q):qu p=qu q:=by
 unfold qu;rw[h.1];have e:(List.range q.n).map (fun i=>Zo (p.A i) (p.B i))=(List.range q.n).map (fun i=>Zo (q.A i) (q.B i)):=List.map_congr_left fun i a=>by
  have:=h.2 i (List.mem_range.1 a);rw[this.1,this.2]
 rw[e]
theorem same_good {x z:Sail}(h:zhS x z)(k:zU z):zU x/\QS x=QS z:=by
 constructor
 ·obtain⟨k1,k2,k3,b,c,d,e,f,g,a⟩:=k
  exact⟨by rw[h.id];exact k1,by rw[h.fr];exact k2,by rw[h.dst];exact k3,by rw[h.fr,h.dst];exact b,by rw[h.dep];exact c,by rw[h.dep,h.arr];exact d,by rw[h.arr];exact e,h.la.good f,h.ca.good g,by rw[h.most];exact a⟩
 ·unfold QS zfo
  rw[h.id,h.fr,h.dst,h.dep,h.arr,h.most,h.la.text,h.ca.text]
theorem pair_back {a b:Int}(c:In a 0 99999)(d:In b 0 99999):zI (Z4 47 (Zo a b))=a/\zI (Z5 47 (Zo a b))=b:=by
 obtain⟨k1,k2,_⟩:=zcP (zgA (p:=47) (s:=Zo a b) (a:=qf a) (b:=qf b) (qB nd47 c.1) (by unfold Zo;rw[ByteArray.append_assoc]))
 rw[k1,k2];exact⟨qH c,qH d⟩
theorem zdD {q:UInt8}(c:¬ ZS q)(d:q≠47){a b:Int}(e:0<=a)(f:0<=b):zbF q (Zo a b):=Zu (Zu (qB c e) (zae d)) (qB c f)
def zeD (p:qi):Prop:=∀ i,i<p.n->In (p.A i) 0 99999/\In (p.B i) 0 99999
theorem zdE {p:qi}(hn:0<p.n)(h:zeD p):Q2 44 (qD coT ((List.range p.n).map (fun i=>Zo (p.A i) (p.B i)))) ((List.range p.n).map (fun i=>Zo (p.A i) (p.B i))):=by
 refine⟨by intro e;have:=congrArg List.length e;simp at this;omega,rfl,fun q b=>?_⟩
 obtain⟨i,a,rfl⟩:=List.mem_map.1 b;have:=h i (by simpa using a)
 exact zdD nd44 (by decide) this.1.1 this.2.1
theorem pairs_not {p:qi}(hn:0<p.n)(h:zeD p):qD coT ((List.range p.n).map (fun i=>Zo (p.A i) (p.B i)))≠⟨#[45]⟩:=fun e=>by
 have c:=zdE hn h;rw[e] at c;have a:Q2 44 ⟨#[45]⟩ [⟨#[45]⟩]:=⟨by simp,ZH _ _,fun q a=>by simp at a;rw[a];simp⟩
 have d:=zax c a;have b:((List.range p.n).map (fun i=>Zo (p.A i) (p.B i)))[0]?=some (Zo (p.A 0) (p.B 0)):=by
  rw[List.getElem?_map,List.getElem?_range hn]
  rfl
 rw[d] at b;have f:(⟨#[45]⟩:ByteArray)=Zo (p.A 0) (p.B 0):=by simpa using b
 have:zbF 45 (Zo (p.A 0) (p.B 0)):=zdD (by unfold ZS;decide) (by decide) (h 0 hn).1.1 (h 0 hn).2.1
 rw[← f] at this;exact this (by simp)
def partsP (p:qi):List ByteArray:=(List.range p.n).map (fun i=>Zo (p.A i) (p.B i))
theorem zhT {p:qi}{l:List ByteArray}(h:zeD p)(d:PRd (qu p) l):zhz (prs l) p:=by
 by_cases c:p.n=0
 ·have e:qu p=⟨#[45]⟩:=by unfold qu;rw[if_pos c]
  rcases d.2 with⟨_,rfl⟩|⟨n,_⟩
  ·exact⟨c.symm,fun i a=>by omega⟩
  ·exact absurd e n
 ·have e:qu p=qD coT (partsP p):=by unfold qu;rw[if_neg c];rfl
  rw[e] at d
  rcases d.2 with⟨b,_⟩|⟨_,hl⟩
  ·exact absurd b (pairs_not (by omega) h)
  ·have b:=zax hl (zdE (by omega) h)
   subst b;refine⟨by simp[prs],fun i a=>?_⟩
   have f:wd ((List.range p.n).map (fun i=>Zo (p.A i) (p.B i))) i=Zo (p.A i) (p.B i):=by
    unfold wd;rw[List.getD_eq_getElem?_getD,List.getElem?_map,List.getElem?_range a]
    rfl
   unfold prs;dsimp only;rw[f];exact pair_back (h i a).1 (h i a).2
theorem good_9 {s:Sail}(h:zU s):zeD s.la/\zeD s.ca:=by
 obtain⟨_,_,_,_,_,_,_,b,c,_⟩:=h
 constructor
 ·intro i a
  have:=b.2 i a;unfold In at *
  omega
 ·intro i a
  have:=c.2 i a;unfold In at *
  omega
theorem zeE {q:UInt8}(a:¬ ZS q)(b:q≠47)(c:q≠44)(d:q≠45){p:qi}(h:zeD p):zbF q (qu p):=by
 unfold qu
 split
 ·exact zae d
 ·exact zgz (q:=44) c _ (fun x f=>by
   obtain⟨i,e,rfl⟩:=List.mem_map.1 f;have:=h i (by simpa using e)
   exact zdD a b this.1.1 this.2.1)
theorem ziE {s:Sail}(h:zU s):Q2 32 (QS s) (zfo s):=by
 refine⟨by simp[zfo],rfl,fun p a=>?_⟩
 have r:=zbY h;have b:=good_9 h;have c:zbF 32 s.fr:=zdC h.2.1 (by unfold Qx;decide)
 have d:zbF 32 s.dst:=zdC h.2.2.1 (by unfold Qx;decide)
 unfold zfo at a;simp only[List.mem_cons,List.not_mem_nil,or_false] at a
 rcases a with rfl|rfl|rfl|rfl|rfl|rfl|rfl|rfl|rfl
 ·unfold zcU;decide
 ·exact qB nd32 r.1.1
 ·exact c
 ·exact d
 ·exact qB nd32 r.2.1.1
 ·exact qB nd32 r.2.2.1.1
 ·exact qB nd32 r.2.2.2.1.1
 ·exact zeE nd32 (by decide) (by decide) (by decide) b.1
 ·exact zeE nd32 (by decide) (by decide) (by decide) b.2
theorem sail_back {z:Sail}(h:zU z){W la lc:List ByteArray}(d:Q2 32 (QS z) W)(e:PRd (wd W 7) la)(f:PRd (wd W 8) lc):zhS (readS W la lc) z:=by
 obtain rfl:=zax d (ziE h);have c:=good_9 h;have k:=h;unfold zU In at k;have a:PRd (qu z.la) la:=e;have b:PRd (qu z.ca) lc:=f;refine⟨?_,rfl,rfl,?_,?_,?_,zhT c.1 a,zhT c.2 b⟩
 ·show zI (qf z.id)=z.id
  exact qH ⟨by omega,by omega⟩
 ·show zI (qf z.dep)=z.dep
  exact qH ⟨by omega,by omega⟩
 ·show zI (qf z.arr)=z.arr
  exact qH ⟨by omega,by omega⟩
 ·show zI (qf z.most)=z.most
  exact qH ⟨by omega,by omega⟩
def AnsS (s:ByteArray)(y:Sail)(ok:Bool):Prop:=(ok=true/\zU y/\QS y=s)∨(ok=false/\y=Sail.zero/\∀ z,zU z->QS z≠s)
theorem ans_not {s:ByteArray}{W la lc:List ByteArray}(b:Q2 32 s W)(c:PRd (wd W 7) la)(d:PRd (wd W 8) lc)(hn:¬ (zU (readS W la lc)/\QS (readS W la lc)=s)):AnsS s Sail.zero false :=
 .inr ⟨rfl,rfl,fun z a e=>by
  have h:=same_good (sail_back a (by rw[e];exact b) c d) a
  exact hn ⟨h.1,h.2.trans e⟩⟩
theorem wd_lt {l:List ByteArray}{x:ByteArray}{i:Nat}(h:i<l.length):wd (l++[x]) i=wd l i:=by
 unfold wd;rw[List.getD_eq_getElem?_getD,List.getD_eq_getElem?_getD,List.getElem?_append_left h]
theorem wd_last (l:List ByteArray)(x:ByteArray):wd (l++[x]) l.length=x:=by
 unfold wd;rw[List.getD_eq_getElem?_getD,List.getElem?_append_right (Nat.le_refl _)];simp
theorem zhU (l:List ByteArray)(x:ByteArray):zG (prs (l++[x]))=zG (prs l)++[int i64 (zI (Z4 47 x)),int i64 (zI (Z5 47 x))]:=by
 unfold zG;have e:(prs (l++[x])).n*2=(prs l).n*2+1+1:=by simp[prs];omega
 rw[e,List.range_succ,List.range_succ,List.map_append,List.map_append,List.append_assoc]
 congr 1
 ·refine List.map_congr_left fun j a=>?_
  have a:j<l.length*2:=by simpa [prs] using a
  have d:j / 2<l.length:=by omega
  unfold pairCell prs;dsimp only;rw[wd_lt d]
 ·have c:(prs l).n=l.length:=rfl
  have b:l.length*2 / 2=l.length:=by omega
  have d1:(l.length*2+1) / 2=l.length:=by omega
  have f:l.length*2 % 2=0:=by omega
  have m1:¬ (l.length*2+1) % 2=0:=by omega
  simp only[List.map_cons,List.map_nil,c];unfold pairCell;rw[if_pos f,if_neg m1,b,d1];unfold prs;dsimp only;rw[wd_last]
  rfl
theorem zdF {l:List ByteArray}{k:Nat}(h:k<l.length):l.take (k+1)=l.take k++[l[k]'h]:=by
 rw[List.take_add_one,List.getElem?_eq_getElem h]
 rfl
theorem ziF (s:ByteArray)(w:World)(r:s.size<=1000000000000)(q:Ze w) :
  Calls Tryz.prog 70 #[.string s] w fun e w'=>e=.returned (.agg #[int i64 (zI (Z4 47 s)),int i64 (zI (Z5 47 s))])/\Below w.heap.size w w':=by
 have p:=hI q;have m:=heap_alloc_new w (.cells #[int i64 0,int i64 0] 106);have c:Below w.heap.size w (w.alloc (.cells #[int i64 0,int i64 0] 106)):=zr bZ _;have j:Hid (∀ i,Ze i->Calls Tryz.prog 93 #[.string s] i fun e w'=>e=.returned (.tuple #[int i64 (zI (Z4 47 s)),int i64 (zI (Z5 47 s))])/\Below i.heap.size i w'):=fun i h=>zcy s i r h
 generalize zI (Z4 47 s)=a at j ⊢;generalize zI (Z5 47 s)=b at j ⊢;go_enter Tryz.func70,Tryz.ntmps70;go_upto_region 1 with fail;generalize w.alloc (.cells #[int i64 0,int i64 0] 106)=W at m c ⊢;have t:=c.size;have n:=j.out W (p.out.below c);go_wp2_with fail;refine n.mono ?_;clear n;rintro e y ⟨rfl,f⟩;have b2:=zc m f;have d:=zj c f;have y0:=za b2 0 _ rfl;have y1:=za b2 1 _ rfl;have g0:=zg b2 0;have g1:=zg b2 1;have o:=zy (zy b2 0 (int i64 a)) 1 (int i64 b);have l:Hid (Below w.heap.size w _):=zA.below d d.size (((zA.refl y (fun g=>g=w.heap.size)).set (a:=⟨w.heap.size,0,none⟩) rfl (int i64 a)).set (a:=⟨w.heap.size,1,none⟩) rfl (int i64 b)) (fun k e=>by have e:k=w.heap.size:=e;omega)
 clear m c f b2 d;go_wp2;have u:=za o 0 _ rfl;have x:=za o 1 _ rfl;exact bodyPost_ret (v:=.agg #[int i64 a,int i64 b]) (by simp[results,Tryz.results70,go_sem,u,x]) rfl ⟨rfl,l.out⟩
theorem zdS (s:ByteArray)(w:World)(hs:s.size<=1048576)(W:Ze w) :
  Calls Tryz.prog 69 #[.string s,.func (.func 70) #[] #[]] w fun e w'=>∃ v l,e=.returned v/\w'.ownsRow w.heap.size 106 2 v l.length (zG (prs l))/\Hid (PRd s l)/\Below w.heap.size w w':=by
 have HP:=hI W;clear W;obtain⟨j0,ji,S,T,U⟩:=info_parts Tryz.infoLane
 by_cases h45:s=⟨#[45]⟩
 ·have z:(s.toList == (⟨#[45]⟩:ByteArray).toList)=true:=Q4.2 h45
  have HR:Hid (PRd s []):=⟨by simp,.inl ⟨h45,rfl⟩⟩
  have M:s.toList=[45]:=by rw[h45];simp[ByteArray.toList_eq]
  clear h45;go_enter Tryz.func69,Tryz.ntmps69;go_wp2;go_ret;exact⟨_,[],rfl,World.ownsRow_nil _ _ _ _,HR,bZ⟩
 ·have z:(s.toList == [45])=false:=by
   rw[beq_eq_false_iff_ne];intro e;exact h45 (QU (by rw[e];simp[ByteArray.toList_eq]))
  have M:¬ s.toList=[45]:=by rwa [beq_eq_false_iff_ne] at z
  have J:=hI h45;clear h45;go_enter Tryz.func69,Tryz.ntmps69;go_wp2_with fail;refine(zaO s 44 _ (by decide) hs).mono ?_
  rintro e w2 ⟨v,l,rfl,Q,F,O⟩;obtain⟨pa,V,rfl,a1,a2,a3⟩:=zt Q;have f:=hI Q;have y:=hI F.out;have a0:l.length<=1048577:=by have:=F.out.2;omega
  have L:Hid (∀ q,q ∈ l->q.size<=1000000000000):=fun q hq=>by have:=zdd F.out.1 q hq;omega
  clear Q F;go_wp2;go_loopw [5,7,13] (fun v _ i C=>∃ k:Nat,k<=l.length/\i=int i64 k/\Hid (C.ownsRow w.heap.size 106 2 v k (zG (prs (l.take k))))/\Hid (zcZ C w.heap.size (.slice pa l.length V) l)/\Below w.heap.size w C)
   (fun _ _ i _=>l.length - (intOf i).toNat)
  case atStart=>exact⟨0,Nat.zero_le _,rfl,World.ownsRow_nil _ _ _ _,f.out,O⟩
  case round =>
   clear f;obtain⟨k,hk,rfl,t,f,a⟩:=hrel
   by_cases hlt:k<l.length
   ·obtain⟨g,R,_,hg⟩:=qw f.out (by omega)
    subst R;have Z:l[k]?=some (l[k]'hlt):=List.getElem?_eq_getElem hlt;have X:C.cell? ⟨g,k,none⟩=some (.string (l[k]'hlt)):=by rw[World.ownsRow.cellAt f.out k (by omega),List.getElem?_map,Z];rfl
    have G:=hI (zdF hlt);have n:Hid ((l[k]'hlt).size<=1000000000000):=L.out _ (List.getElem_mem hlt);generalize l[k]'hlt=x at X G n;obtain⟨va,vc,rfl,_⟩:=zt t.out;have E:=ziF x C n.out (HP.out.below a);have c:Hid (zG (prs (l.take (k+1)))=zG (prs (l.take k))++[int i64 (zI (Z4 47 x)),int i64 (zI (Z5 47 x))]):=by rw[G.out];exact zhU _ _
    generalize zI (Z4 47 x)=ca at E c;generalize zI (Z5 47 x)=D at E c;clear Z G n;go_wp2_with fail;refine E.mono ?_;clear E;rintro e B ⟨rfl,d⟩;have b:Hid (World.ownsRow (B.alloc (.cells #[int i64 ca,int i64 D] 106)) w.heap.size 106 2 (.slice va k vc) k (zG (prs (l.take k)))):=zm (zr bZ _) (zm d t.out);have m:Hid (zcZ (B.alloc (.cells #[int i64 ca,int i64 D] 106)) w.heap.size (.slice (some ⟨g,0,none⟩) l.length V) l):=zm (zr bZ _) (zm d f.out);have o:Below w.heap.size w (B.alloc (.cells #[int i64 ca,int i64 D] 106)):=zr (zj a d) _;have r:=o.size;clear t f a d X;go_wp2_with (first|(at_builtin;refine zz _ (by rfl) (.tmp 17) (.tmp 21) 34 (by rfl) w.heap.size 106 j0 (.agg #[int i64 0,int i64 0]) 2 16 Tryz.underlying34 ji S T U rfl (by decide) _ k (zG (prs (l.take k))) (by rfl) b.out (some ⟨B.heap.size,0,none⟩) 1 1 [int i64 ca,int i64 D] (by rfl) (fun h=>by cases h) (by rfl) (fun ad h=>by cases h;exact World.news_of_block (heap_alloc_new B _)) (by intro u Y;simp only[List.mem_cons,List.not_mem_nil,or_false] at Y;rcases Y with rfl|rfl <;> rfl) (by unfold maxLen;omega) (by omega) r ?_;intro v9 w9 A p))
    have I:Hid (World.ownsRow w9 w.heap.size 106 2 v9 (k+1) (zG (prs (l.take (k+1))))):=by
     rw[c.out];exact A
    have K:Hid (zcZ w9 w.heap.size (.slice (some ⟨g,0,none⟩) l.length V) l):=(zO p).own m.out (fun g1 h1 M=>own_apart m.out b.out (by decide) g1 h1 M)
    have P:=o.grown p r (fun j hj=>(World.ownsRow.lt b.out j hj).1)
    clear b m o A p r c;go_roundw
    case rel=>exact⟨k+1,by omega,by go_num,I.out,K.out,P⟩
    case measure=>simp[intOf];omega
   ·obtain rfl:k=l.length:=by omega
    have HF:Hid (PRd s l):=⟨y.out.2,.inr ⟨J.out,y.out.1⟩⟩;have N:=t.out;rw[List.take_of_length_le (Nat.le_refl _)] at N;have H:=hI N;clear t N;go_wp2;go_ret;exact⟨_,_,rfl,H.out,HF,a⟩
theorem zhA (s:ByteArray)(w:World)(r:s.size<=1000000000000)(q:Ze w) :
  Calls Tryz.prog 72 #[.string s] w fun e w'=>e=.returned (.agg #[int i64 (zI (Z4 47 s)),int i64 (zI (Z5 47 s))])/\Below w.heap.size w w':=by
 have p:=hI q;have m:=heap_alloc_new w (.cells #[int i64 0,int i64 0] 110);have c:Below w.heap.size w (w.alloc (.cells #[int i64 0,int i64 0] 110)):=zr bZ _;have j:Hid (∀ i,Ze i->Calls Tryz.prog 93 #[.string s] i fun e w'=>e=.returned (.tuple #[int i64 (zI (Z4 47 s)),int i64 (zI (Z5 47 s))])/\Below i.heap.size i w'):=fun i h=>zcy s i r h
 generalize zI (Z4 47 s)=a at j ⊢;generalize zI (Z5 47 s)=b at j ⊢;go_enter Tryz.func72,Tryz.ntmps72;go_upto_region 1 with fail;generalize w.alloc (.cells #[int i64 0,int i64 0] 110)=W at m c ⊢;have t:=c.size;have n:=j.out W (p.out.below c);go_wp2_with fail;refine n.mono ?_;clear n;rintro e y ⟨rfl,f⟩;have b2:=zc m f;have d:=zj c f;have y0:=za b2 0 _ rfl;have y1:=za b2 1 _ rfl;have g0:=zg b2 0;have g1:=zg b2 1;have o:=zy (zy b2 0 (int i64 a)) 1 (int i64 b);have l:Hid (Below w.heap.size w _):=zA.below d d.size (((zA.refl y (fun g=>g=w.heap.size)).set (a:=⟨w.heap.size,0,none⟩) rfl (int i64 a)).set (a:=⟨w.heap.size,1,none⟩) rfl (int i64 b)) (fun k e=>by have e:k=w.heap.size:=e;omega)
 clear m c f b2 d;go_wp2;have u:=za o 0 _ rfl;have x:=za o 1 _ rfl;exact bodyPost_ret (v:=.agg #[int i64 a,int i64 b]) (by simp[results,Tryz.results72,go_sem,u,x]) rfl ⟨rfl,l.out⟩
theorem zdG (s:ByteArray)(w:World)(hs:s.size<=1048576)(W:Ze w) :
  Calls Tryz.prog 71 #[.string s,.func (.func 72) #[] #[]] w fun e w'=>∃ v l,e=.returned v/\w'.ownsRow w.heap.size 110 2 v l.length (zG (prs l))/\Hid (PRd s l)/\Below w.heap.size w w':=by
 have HP:=hI W;clear W;obtain⟨j0,ji,S,T,U⟩:=info_parts Tryz.infoCabin
 by_cases h45:s=⟨#[45]⟩
 ·have z:(s.toList == (⟨#[45]⟩:ByteArray).toList)=true:=Q4.2 h45
  have HR:Hid (PRd s []):=⟨by simp,.inl ⟨h45,rfl⟩⟩
  have M:s.toList=[45]:=by rw[h45];simp[ByteArray.toList_eq]
  clear h45;go_enter Tryz.func71,Tryz.ntmps71;go_wp2;go_ret;exact⟨_,[],rfl,World.ownsRow_nil _ _ _ _,HR,bZ⟩
 ·have z:(s.toList == [45])=false:=by
   rw[beq_eq_false_iff_ne];intro e;exact h45 (QU (by rw[e];simp[ByteArray.toList_eq]))
  have M:¬ s.toList=[45]:=by rwa [beq_eq_false_iff_ne] at z
  have J:=hI h45;clear h45;go_enter Tryz.func71,Tryz.ntmps71;go_wp2_with fail;refine(zaO s 44 _ (by decide) hs).mono ?_
  rintro e w2 ⟨v,l,rfl,Q,F,O⟩;obtain⟨pa,V,rfl,a1,a2,a3⟩:=zt Q;have f:=hI Q;have y:=hI F.out;have a0:l.length<=1048577:=by have:=F.out.2;omega
  have L:Hid (∀ q,q ∈ l->q.size<=1000000000000):=fun q hq=>by have:=zdd F.out.1 q hq;omega
  clear Q F;go_wp2;go_loopw [5,7,13] (fun v _ i C=>∃ k:Nat,k<=l.length/\i=int i64 k/\Hid (C.ownsRow w.heap.size 110 2 v k (zG (prs (l.take k))))/\Hid (zcZ C w.heap.size (.slice pa l.length V) l)/\Below w.heap.size w C)
   (fun _ _ i _=>l.length - (intOf i).toNat)
  case atStart=>exact⟨0,Nat.zero_le _,rfl,World.ownsRow_nil _ _ _ _,f.out,O⟩
  case round =>
   clear f;obtain⟨k,hk,rfl,t,f,a⟩:=hrel
   by_cases hlt:k<l.length
   ·obtain⟨g,R,_,hg⟩:=qw f.out (by omega)
    subst R;have Z:l[k]?=some (l[k]'hlt):=List.getElem?_eq_getElem hlt;have X:C.cell? ⟨g,k,none⟩=some (.string (l[k]'hlt)):=by rw[World.ownsRow.cellAt f.out k (by omega),List.getElem?_map,Z];rfl
    have G:=hI (zdF hlt);have n:Hid ((l[k]'hlt).size<=1000000000000):=L.out _ (List.getElem_mem hlt);generalize l[k]'hlt=x at X G n;obtain⟨va,vc,rfl,_⟩:=zt t.out;have E:=zhA x C n.out (HP.out.below a);have c:Hid (zG (prs (l.take (k+1)))=zG (prs (l.take k))++[int i64 (zI (Z4 47 x)),int i64 (zI (Z5 47 x))]):=by rw[G.out];exact zhU _ _
    generalize zI (Z4 47 x)=ca at E c;generalize zI (Z5 47 x)=D at E c;clear Z G n;go_wp2_with fail;refine E.mono ?_;clear E;rintro e B ⟨rfl,d⟩;have b:Hid (World.ownsRow (B.alloc (.cells #[int i64 ca,int i64 D] 110)) w.heap.size 110 2 (.slice va k vc) k (zG (prs (l.take k)))):=zm (zr bZ _) (zm d t.out);have m:Hid (zcZ (B.alloc (.cells #[int i64 ca,int i64 D] 110)) w.heap.size (.slice (some ⟨g,0,none⟩) l.length V) l):=zm (zr bZ _) (zm d f.out);have o:Below w.heap.size w (B.alloc (.cells #[int i64 ca,int i64 D] 110)):=zr (zj a d) _;have r:=o.size;clear t f a d X;go_wp2_with (first|(at_builtin;refine zz _ (by rfl) (.tmp 17) (.tmp 21) 35 (by rfl) w.heap.size 110 j0 (.agg #[int i64 0,int i64 0]) 2 16 Tryz.underlying35 ji S T U rfl (by decide) _ k (zG (prs (l.take k))) (by rfl) b.out (some ⟨B.heap.size,0,none⟩) 1 1 [int i64 ca,int i64 D] (by rfl) (fun h=>by cases h) (by rfl) (fun ad h=>by cases h;exact World.news_of_block (heap_alloc_new B _)) (by intro u Y;simp only[List.mem_cons,List.not_mem_nil,or_false] at Y;rcases Y with rfl|rfl <;> rfl) (by unfold maxLen;omega) (by omega) r ?_;intro v9 w9 A p))
    have I:Hid (World.ownsRow w9 w.heap.size 110 2 v9 (k+1) (zG (prs (l.take (k+1))))):=by
     rw[c.out];exact A
    have K:Hid (zcZ w9 w.heap.size (.slice (some ⟨g,0,none⟩) l.length V) l):=(zO p).own m.out (fun g1 h1 M=>own_apart m.out b.out (by decide) g1 h1 M)
    have P:=o.grown p r (fun j hj=>(World.ownsRow.lt b.out j hj).1)
    clear b m o A p r c;go_roundw
    case rel=>exact⟨k+1,by omega,by go_num,I.out,K.out,P⟩
    case measure=>simp[intOf];omega
   ·obtain rfl:k=l.length:=by omega
    have HF:Hid (PRd s l):=⟨y.out.2,.inr ⟨J.out,y.out.1⟩⟩;have N:=t.out;rw[List.take_of_length_le (Nat.le_refl _)] at N;have H:=hI N;clear t N;go_wp2;go_ret;exact⟨_,_,rfl,H.out,HF,a⟩
section
open Go.RowKit
structure SRc where
 id:Int
 fr:ByteArray
 dst:ByteArray
 dep:Int
 arr:Int
 vl:Value
 vc:Value
 la:List ByteArray
 lc:List ByteArray
 most:Int
def SRc.cs (x:SRc):Array Value:=#[int i64 x.id,.string x.fr,.string x.dst,int i64 x.dep,int i64 x.arr,x.vl,x.vc,int i64 x.most]
noncomputable def SRc.d (x:SRc):Sail:=⟨x.id,x.fr,x.dst,x.dep,x.arr,prs x.la,prs x.lc,x.most⟩
theorem zfy (l:List ByteArray)(i:Nat):hd (l.drop i)=wd l i:=by
 unfold hd wd;rw[List.headD_eq_head?_getD,List.head?_drop,List.getD_eq_getElem?_getD]
theorem zhB (b:Nat)(l:List ByteArray)(i:Nat)(w:World)(h:WSt w b (l.drop i)) :
  Calls Tryz.prog 51 #[.pointer (some ⟨b,0,none⟩)] w fun e w'=>e=.returned (.string (wd l i))/\Hid (WSt w' b (l.drop (i+1)))/\zA w w' (fun k=>k=b):=by
 have c:=zfu b (l.drop i) w h;rw[zfy,List.tail_drop] at c;exact c
theorem name_at (b:Nat)(l:List ByteArray)(i:Nat)(w:World)(h:WSt w b (l.drop i))(hl:(wd l i).size<=1048576) :
  Calls Tryz.prog 53 #[.pointer (some ⟨b,0,none⟩)] w fun e w'=>e=.returned (.string (wd l i))/\Hid (WSt w' b (l.drop (i+1)))/\zA w w' (fun k=>k=b):=by
 have c:=name_hd b (l.drop i) w h (by rw[zfy];exact hl)
 rw[zfy,List.tail_drop] at c;exact c
theorem zce (b:Nat)(l:List ByteArray)(i:Nat)(w:World)(h:WSt w b (l.drop i))(a:Ze w)(d:4≠b) :
  Calls Tryz.prog 52 #[.pointer (some ⟨b,0,none⟩)] w fun e w'=>e=.returned (int i64 (zI (wd l i)))/\Hid (WSt w' b (l.drop (i+1)))/\zA w w' (fun k=>k=b):=by
 have c:=zcc b (l.drop i) w h a d;rw[zfy,List.tail_drop] at c;exact c
theorem zhC {l:List ByteArray}(hl:∀ q,q ∈ l->q.size<=1048576)(i:Nat):(wd l i).size<=1048576:=by
 unfold wd;rw[List.getD_eq_getElem?_getD]
 cases h:l[i]? with
 | none=>exact Nat.zero_le _
 | some q=>exact hl q (List.mem_of_getElem? h)
structure SIn (w a:World)(b d c:Nat)(x:SRc)(L:List ByteArray):Prop where
 r:a.heap[d]?=some (.cells #[int i64 0,.string ⟨#[]⟩,.string ⟨#[]⟩,int i64 0,int i64 0,.slice none 0 0,.slice none 0 0,int i64 0] 37 (0,0))
 o:a.heap[c]?=some (.cells x.cs 37 (0,0))
 ws:WSt a b L
 ne:d≠c
 lo:w.heap.size<=d/\w.heap.size<=c
 la:a.ownsRow w.heap.size 106 2 x.vl x.la.length (zG (prs x.la))
 ca:a.ownsRow w.heap.size 110 2 x.vc x.lc.length (zG (prs x.lc))
 kept:zA w a (fun g=>g=b)
section
variable {w wx wy : World} {b rb ob : Nat} {x : SRc} {L L' : List ByteArray}
theorem SIn.below (h:SIn w wx b rb ob x L)(a:Below wx.heap.size wx wy):SIn w wy b rb ob x L :=
 ⟨zc h.r a,zc h.o a,h.ws.below a,h.ne,h.lo,zm a h.la,zm a h.ca,h.kept.trans (zA.of_below a)⟩
theorem SIn.words (h:SIn w wx b rb ob x L)(d:WSt wy b L')(a:zA wx wy (fun g=>g=b)):SIn w wy b rb ob x L':=by
 obtain⟨_,_,c,_⟩:=id h.ws;exact⟨a.blk h.r (QT h.ws h.r (by decide)),a.blk h.o (QT h.ws h.o (by decide)),d,h.ne,h.lo,a.own h.la (Zt h.la c (by decide)),a.own h.ca (Zt h.ca c (by decide)),h.kept.trans a⟩
theorem SIn.store (h:SIn w wx b rb ob x L)(i:Nat)(u:Value)(y:SRc)(j:y.cs=x.cs.setIfInBounds i u)(hl:wx.ownsRow w.heap.size 106 2 y.vl y.la.length (zG (prs y.la)))(f:wx.ownsRow w.heap.size 110 2 y.vc y.lc.length (zG (prs y.lc))):SIn w (wx.setCell ⟨ob,i,none⟩ u) b rb ob y L:=by
 have d:zA wx (wx.setCell ⟨ob,i,none⟩ u) (fun g=>g=ob):=(zA.refl wx (fun g=>g=ob)).set (a:=⟨ob,i,none⟩) rfl u
 refine⟨d.blk h.r h.ne,?_,?_,h.ne,h.lo,d.own hl (Zt hl h.o (by decide)),d.own f (Zt f h.o (by decide)),?_⟩
 ·rw[j]
  exact zy h.o i u
 ·refine h.ws.kept d (fun e=>QT h.ws h.o (by decide) e.symm) (fun g cur c e=>?_)
  have e:g=ob:=e;rw[e,h.o] at c;simp only[Option.some.injEq,Obj.cells.injEq] at c;exact absurd c.2.1 (by decide)
 ·refine⟨h.kept.os,h.kept.tape,h.kept.output,by rw[World.size_setCell];exact h.kept.size,fun g c hn=>?_⟩
  rw[d.block g (by have:=h.kept.size;omega) (fun e=>by have e:g=ob:=e;have:=h.lo.2;omega)]
  exact h.kept.block g c hn
theorem SIn.done {z:World}(h:SIn w wx b rb ob x L)(a:zA wx z (fun g=>g=rb)):z.ownsRow w.heap.size 106 2 x.vl x.la.length (zG (prs x.la))/\z.ownsRow w.heap.size 110 2 x.vc x.lc.length (zG (prs x.lc))/\zA w z (fun g=>g=b):=by
 refine⟨a.own h.la (Zt h.la h.r (by decide)),a.own h.ca (Zt h.ca h.r (by decide)),⟨a.os.trans h.kept.os,a.tape.trans h.kept.tape,a.output.trans h.kept.output,Nat.le_trans h.kept.size a.size,fun g c hn=>?_⟩⟩
 rw[a.block g (by have:=h.kept.size;omega) (fun e=>by have e:g=rb:=e;have:=h.lo.1;omega)]
 exact h.kept.block g c hn
end
theorem zfz (b:Nat)(l:List ByteArray)(w:World)(hl:∀ q,q ∈ l->q.size<=1048576)(h:WSt w b l)(hP:Ze w)(G:4≠b) :
  Calls Tryz.prog 28 #[.pointer (some ⟨b,0,none⟩)] w fun e w'=>∃ x:SRc,e=.returned (.agg x.cs)/\w'.ownsRow w.heap.size 106 2 x.vl x.la.length (zG (prs x.la))/\w'.ownsRow w.heap.size 110 2 x.vc x.lc.length (zG (prs x.lc))/\Hid (x.d=readS l x.la x.lc/\PRd (wd l 7) x.la/\PRd (wd l 8) x.lc)/\zA w w' (fun g=>g=b):=by
 have t:Hid (∀ wx,zA w wx (fun g=>g=b)->Ze wx):=fun wx f=>zfs (S:=fun g=>g=b) hP f G
 have P:Hid (∀ i,(wd l i).size<=1048576):=fun i=>zhC hl i
 have hr:=heap_alloc_new w (.cells #[int i64 0,.string ⟨#[]⟩,.string ⟨#[]⟩,int i64 0,int i64 0,.slice none 0 0,.slice none 0 0,int i64 0] 37);have R:Below w.heap.size w (w.alloc (.cells #[int i64 0,.string ⟨#[]⟩,.string ⟨#[]⟩,int i64 0,int i64 0,.slice none 0 0,.slice none 0 0,int i64 0] 37)):=zr bZ _;have Q:=hI (h.below R);clear h hP hl;go_enter Tryz.func28,Tryz.ntmps28;go_upto_region 1 with fail;generalize w.alloc (.cells #[int i64 0,.string ⟨#[]⟩,.string ⟨#[]⟩,int i64 0,int i64 0,.slice none 0 0,.slice none 0 0,int i64 0] 37)=W at hr R Q ⊢;have a3:zA w W (fun g=>g=b):=zA.of_below R
 go_wp2_with fail;refine(zhB b l 0 _ Q.out).mono ?_;rintro e U ⟨rfl,a1,Y⟩;have a5:¬ w.heap.size=b:=QT Q.out hr (by decide)
 have a0:=Y.blk hr a5;have a2:=a3.trans Y;have V:=zZ a0;clear hr R Q a3 Y a5;have b3:=heap_alloc_new U (.cells #[int i64 0,.string ⟨#[]⟩,.string ⟨#[]⟩,int i64 0,int i64 0,.slice none 0 0,.slice none 0 0,int i64 0] 37);have p3:Below U.heap.size U (U.alloc (.cells #[int i64 0,.string ⟨#[]⟩,.string ⟨#[]⟩,int i64 0,int i64 0,.slice none 0 0,.slice none 0 0,int i64 0] 37)):=zr bZ _;have r:Hid (SIn w (U.alloc (.cells #[int i64 0,.string ⟨#[]⟩,.string ⟨#[]⟩,int i64 0,int i64 0,.slice none 0 0,.slice none 0 0,int i64 0] 37)) b w.heap.size U.heap.size ⟨0,⟨#[]⟩,⟨#[]⟩,0,0,.slice none 0 0,.slice none 0 0,[],[],0⟩ (l.drop 1)) :=
  ⟨zc a0 p3,b3,a1.out.below p3,by omega,⟨Nat.le_refl _,by omega⟩,World.ownsRow_nil _ _ _ _,World.ownsRow_nil _ _ _ _,a2.trans (zA.of_below p3)⟩
 clear a0 a2 b3 p3 a1;go_upto_region 3 with fail;generalize U.alloc (.cells #[int i64 0,.string ⟨#[]⟩,.string ⟨#[]⟩,int i64 0,int i64 0,.slice none 0 0,.slice none 0 0,int i64 0] 37)=W0 at r ⊢;generalize U.heap.size=j at r V ⊢;clear U W;generalize w.heap.size=T at r V ⊢;go_wp2_with fail;refine(zce b l 1 _ r.out.ws (t.out _ r.out.kept) G).mono ?_;rintro e v0 ⟨rfl,k,f⟩;have a:=hI (r.out.words k.out f);have d:=a.out.o;have s:=za d 0 _ rfl;have p:=zg d 0;have K:Hid (SIn w (v0.setCell ⟨j,0,none⟩ (int i64 (zI (wd l 1)))) b T j ⟨(zI (wd l 1)),⟨#[]⟩,⟨#[]⟩,0,0,(.slice none 0 0),(.slice none 0 0),[],[],0⟩ (l.drop 2)):=a.out.store 0 (int i64 (zI (wd l 1))) ⟨(zI (wd l 1)),⟨#[]⟩,⟨#[]⟩,0,0,(.slice none 0 0),(.slice none 0 0),[],[],0⟩ rfl a.out.la a.out.ca;clear d a k f r;go_upto_region 4 with fail;generalize v0.setCell ⟨j,0,none⟩ (int i64 (zI (wd l 1)))=W1 at K ⊢;clear s p;go_wp2_with fail;refine(name_at b l 2 _ K.out.ws (P.out 2)).mono ?_;rintro e v1 ⟨rfl,k,f⟩;have a:=hI (K.out.words k.out f);have d:=a.out.o;have s:=za d 1 _ rfl;have p:=zg d 1;have L:Hid (SIn w (v1.setCell ⟨j,1,none⟩ (.string (wd l 2))) b T j ⟨(zI (wd l 1)),(wd l 2),⟨#[]⟩,0,0,(.slice none 0 0),(.slice none 0 0),[],[],0⟩ (l.drop 3)):=a.out.store 1 (.string (wd l 2)) ⟨(zI (wd l 1)),(wd l 2),⟨#[]⟩,0,0,(.slice none 0 0),(.slice none 0 0),[],[],0⟩ rfl a.out.la a.out.ca;clear d a k f K;go_upto_region 5 with fail;generalize v1.setCell ⟨j,1,none⟩ (.string (wd l 2))=W2 at L ⊢;clear s p;go_wp2_with fail;refine(name_at b l 3 _ L.out.ws (P.out 3)).mono ?_;rintro e v2 ⟨rfl,k,f⟩;have a:=hI (L.out.words k.out f);have d:=a.out.o;have s:=za d 2 _ rfl;have p:=zg d 2;have B:Hid (SIn w (v2.setCell ⟨j,2,none⟩ (.string (wd l 3))) b T j ⟨(zI (wd l 1)),(wd l 2),(wd l 3),0,0,(.slice none 0 0),(.slice none 0 0),[],[],0⟩ (l.drop 4)):=a.out.store 2 (.string (wd l 3)) ⟨(zI (wd l 1)),(wd l 2),(wd l 3),0,0,(.slice none 0 0),(.slice none 0 0),[],[],0⟩ rfl a.out.la a.out.ca;clear d a k f L;go_upto_region 6 with fail;generalize v2.setCell ⟨j,2,none⟩ (.string (wd l 3))=W3 at B ⊢;clear s p;go_wp2_with fail;refine(zce b l 4 _ B.out.ws (t.out _ B.out.kept) G).mono ?_;rintro e v3 ⟨rfl,k,f⟩;have a:=hI (B.out.words k.out f);have d:=a.out.o;have s:=za d 3 _ rfl;have p:=zg d 3;have C:Hid (SIn w (v3.setCell ⟨j,3,none⟩ (int i64 (zI (wd l 4)))) b T j ⟨(zI (wd l 1)),(wd l 2),(wd l 3),(zI (wd l 4)),0,(.slice none 0 0),(.slice none 0 0),[],[],0⟩ (l.drop 5)):=a.out.store 3 (int i64 (zI (wd l 4))) ⟨(zI (wd l 1)),(wd l 2),(wd l 3),(zI (wd l 4)),0,(.slice none 0 0),(.slice none 0 0),[],[],0⟩ rfl a.out.la a.out.ca;clear d a k f B;go_upto_region 7 with fail;generalize v3.setCell ⟨j,3,none⟩ (int i64 (zI (wd l 4)))=W4 at C ⊢;clear s p;go_wp2_with fail;refine(zce b l 5 _ C.out.ws (t.out _ C.out.kept) G).mono ?_;rintro e v4 ⟨rfl,k,f⟩;have a:=hI (C.out.words k.out f);have d:=a.out.o;have s:=za d 4 _ rfl;have p:=zg d 4;have D:Hid (SIn w (v4.setCell ⟨j,4,none⟩ (int i64 (zI (wd l 5)))) b T j ⟨(zI (wd l 1)),(wd l 2),(wd l 3),(zI (wd l 4)),(zI (wd l 5)),(.slice none 0 0),(.slice none 0 0),[],[],0⟩ (l.drop 6)):=a.out.store 4 (int i64 (zI (wd l 5))) ⟨(zI (wd l 1)),(wd l 2),(wd l 3),(zI (wd l 4)),(zI (wd l 5)),(.slice none 0 0),(.slice none 0 0),[],[],0⟩ rfl a.out.la a.out.ca;clear d a k f C;go_upto_region 8 with fail;generalize v4.setCell ⟨j,4,none⟩ (int i64 (zI (wd l 5)))=W5 at D ⊢;clear s p;go_wp2_with fail;refine(zce b l 6 _ D.out.ws (t.out _ D.out.kept) G).mono ?_;rintro e v5 ⟨rfl,k,f⟩;have a:=hI (D.out.words k.out f);have d:=a.out.o;have s:=za d 7 _ rfl;have p:=zg d 7;have M:Hid (SIn w (v5.setCell ⟨j,7,none⟩ (int i64 (zI (wd l 6)))) b T j ⟨(zI (wd l 1)),(wd l 2),(wd l 3),(zI (wd l 4)),(zI (wd l 5)),(.slice none 0 0),(.slice none 0 0),[],[],(zI (wd l 6))⟩ (l.drop 7)):=a.out.store 7 (int i64 (zI (wd l 6))) ⟨(zI (wd l 1)),(wd l 2),(wd l 3),(zI (wd l 4)),(zI (wd l 5)),(.slice none 0 0),(.slice none 0 0),[],[],(zI (wd l 6))⟩ rfl a.out.la a.out.ca;clear d a k f D;go_upto_region 9 with fail;generalize v5.setCell ⟨j,7,none⟩ (int i64 (zI (wd l 6)))=W6 at M ⊢;clear s p;go_wp2_with fail;refine(zhB b l 7 _ M.out.ws).mono ?_;rintro e z6 ⟨rfl,k,f⟩;have I:=hI (M.out.words k.out f);clear k f M;go_wp2_with fail;refine(zdS (wd l 7) _ (P.out 7) (t.out _ I.out.kept)).mono ?_;rintro e v6 ⟨vv,m,rfl,Z,J,H⟩;have a:=hI (I.out.below H);have z:=hI (zE Z I.out.kept.size);obtain⟨u,y,rfl,_⟩:=zt Z;clear Z H I;have d:=a.out.o;have s:=za d 5 _ rfl;have p:=zg d 5;have N:Hid (SIn w (v6.setCell ⟨j,5,none⟩ (.slice u m.length y)) b T j ⟨(zI (wd l 1)),(wd l 2),(wd l 3),(zI (wd l 4)),(zI (wd l 5)),(.slice u m.length y),(.slice none 0 0),m,[],(zI (wd l 6))⟩ (l.drop 8)):=a.out.store 5 (.slice u m.length y) ⟨(zI (wd l 1)),(wd l 2),(wd l 3),(zI (wd l 4)),(zI (wd l 5)),(.slice u m.length y),(.slice none 0 0),m,[],(zI (wd l 6))⟩ rfl z.out a.out.ca;clear d a z;go_upto_region 10 with fail;generalize v6.setCell ⟨j,5,none⟩ (.slice u m.length y)=W7 at N ⊢;clear s p;go_wp2_with fail;refine(zhB b l 8 _ N.out.ws).mono ?_;rintro e z7 ⟨rfl,k,f⟩;have I:=hI (N.out.words k.out f);clear k f N;go_wp2_with fail;refine(zdG (wd l 8) _ (P.out 8) (t.out _ I.out.kept)).mono ?_;rintro e v7 ⟨vv,o,rfl,Z,A,H⟩;have a:=hI (I.out.below H);have z:=hI (zE Z I.out.kept.size);obtain⟨E,F,rfl,_⟩:=zt Z;clear Z H I;have d:=a.out.o;have s:=za d 6 _ rfl;have p:=zg d 6;have O:Hid (SIn w (v7.setCell ⟨j,6,none⟩ (.slice E o.length F)) b T j ⟨(zI (wd l 1)),(wd l 2),(wd l 3),(zI (wd l 4)),(zI (wd l 5)),(.slice u m.length y),(.slice E o.length F),m,o,(zI (wd l 6))⟩ (l.drop 9)):=a.out.store 6 (.slice E o.length F) ⟨(zI (wd l 1)),(wd l 2),(wd l 3),(zI (wd l 4)),(zI (wd l 5)),(.slice u m.length y),(.slice E o.length F),m,o,(zI (wd l 6))⟩ rfl a.out.la z.out;clear d a z;go_upto_region 11 with fail;generalize v7.setCell ⟨j,6,none⟩ (.slice E o.length F)=W8 at O ⊢;clear s p;have a8:Hid (SRc.d ⟨(zI (wd l 1)),(wd l 2),(wd l 3),(zI (wd l 4)),(zI (wd l 5)),(.slice u m.length y),(.slice E o.length F),m,o,(zI (wd l 6))⟩=readS l m o/\PRd (wd l 7) m/\PRd (wd l 8) o):=⟨rfl,J.out,A.out⟩;have c:=O.out.r;have n:W8.heap[j]?=some (.cells #[int i64 (zI (wd l 1)),.string (wd l 2),.string (wd l 3),int i64 (zI (wd l 4)),int i64 (zI (wd l 5)),.slice u m.length y,.slice E o.length F,int i64 (zI (wd l 6))] 37 (0,0)):=O.out.o;have s0:=za c 0 _ rfl;have g0:=zg c 0;have p0:=za n 0 _ rfl;have s1:=za c 1 _ rfl;have g1:=zg c 1;have p1:=za n 1 _ rfl;have s2:=za c 2 _ rfl;have g2:=zg c 2;have p2:=za n 2 _ rfl;have s3:=za c 3 _ rfl;have g3:=zg c 3;have p3:=za n 3 _ rfl;have s4:=za c 4 _ rfl;have g4:=zg c 4;have p4:=za n 4 _ rfl;have s5:=za c 5 _ rfl;have p:=zg c 5;have p5:=za n 5 _ rfl;have s6:=za c 6 _ rfl;have g6:=zg c 6;have p6:=za n 6 _ rfl;have s7:=za c 7 _ rfl;have g7:=zg c 7;have p7:=za n 7 _ rfl;have rF:=box_8 c (int i64 (zI (wd l 1))) (.string (wd l 2)) (.string (wd l 3)) (int i64 (zI (wd l 4))) (int i64 (zI (wd l 5))) (.slice u m.length y) (.slice E o.length F) (int i64 (zI (wd l 6)));have X:Hid _:=O.out.done (keep_8 W8 T (int i64 (zI (wd l 1))) (.string (wd l 2)) (.string (wd l 3)) (int i64 (zI (wd l 4))) (int i64 (zI (wd l 5))) (.slice u m.length y) (.slice E o.length F) (int i64 (zI (wd l 6))));clear c n;go_wp2;obtain⟨t0,t1,t2,t3,t4,t5,t6,t7⟩:=ce8 rF;refine bodyPost_ret (v:=.agg #[int i64 (zI (wd l 1)),.string (wd l 2),.string (wd l 3),int i64 (zI (wd l 4)),int i64 (zI (wd l 5)),.slice u m.length y,.slice E o.length F,int i64 (zI (wd l 6))]) (by simp[results,Tryz.results28,go_sem,t0,t1,t2,t3,t4,t5,t6,t7]) rfl ?_
 exact⟨⟨(zI (wd l 1)),(wd l 2),(wd l 3),(zI (wd l 4)),(zI (wd l 5)),(.slice u m.length y),(.slice E o.length F),m,o,(zI (wd l 6))⟩,rfl,X.out.1,X.out.2.1,a8,X.out.2.2⟩
end
end Go.Proofs.YtfallpinmhbemaaGreatDoor
