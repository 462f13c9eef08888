/-
  OWN TEXT: BehindI, SpecFd, SpecFe, SpecLp, SpecEa, SpecEb, SpecFf.
-/
import Derived.Deep.CutBlock
import Derived.Deep.DeepCutAuto
import Derived.Deep.RegionLawGrows
import Derived.Deep.RegionHeld3
import Derived.Deep.AppendLies
import Derived.Great.Walk
import Derived.Test.YtmdnjgihooflfaaGreatDoorB26
namespace Go.Proofs.YtmdnjgihooflfaaGreatDoor
open Go.RowKit
open Go.Value (int)
open Go.IntKind (i64)
open Tryz
set_option maxHeartbeats 64000000
set_option maxRecDepth 100000
section
open Go.RowKit
theorem zmN:∀ (l:List Wk)(j:Nat)(v:Wk),l[j]?=some v->∀ r,r<10->(zgF l)[j*10+r]?=(wkI v)[r]?
 | [],j,v,h,_,_=>by simp at h
 | u :: l,0,v,h,r,hr=>by
  have e:=by simpa using h
  subst e
  show(_++zgF l)[_]?=_
  rw[List.getElem?_append_left (by show _<10;omega),Nat.zero_mul,Nat.zero_add]
 | u :: l,j+1,v,h,r,hr=>by
  have h2:=by simpa using h
  show(_++zgF l)[_]?=_
  rw[List.getElem?_append_right (by show 10<=_;omega),show(j+1)*10+r - (wkI u).length=j*10+r by show _ - 10=_;omega]
  exact zmN l j v h2 r hr
theorem ldRow_one {A B D:Nat->Value}{N:Nat}(h:∀ i,i<N->∃ a e c1 b f c2 c g c3,A i=.slice a e c1/\B i=.slice b f c2/\D i=.slice c g c3):∀ u ∈ zdZ A B D N,u.oneCell'=true:=by
 intro u d;unfold zdZ at d;obtain⟨j,n,rfl⟩:=List.mem_map.1 d;have o:=by simpa using n
 obtain⟨a,e,c1,b,f,c2,c,g,c3,k,l,m⟩:=h (j / 3) (by omega)
 unfold zZ ldC;rw[k,l,m];have:j % 3=0∨j % 3=1∨j % 3=2:=by omega
 rcases this with q|q|q <;> rw[q] <;> rfl
theorem qC.forms {w:World}{base N:Nat}{v:Value}{S:Nat->zY}{A B D:Nat->Value}(h:qC w base v N S A B D){i:Nat}(d:i<N):∃ a c1 b c2 c c3,A i=.slice a (S i).stn c1/\B i=.slice b (S i).ron c2/\D i=.slice c (S i).sen c3:=by
 obtain⟨a,c1,e,_⟩:=zp (h.st i d);obtain⟨b,c2,f,_⟩:=zp (h.ro i d);obtain⟨c,c3,g,_⟩:=zp (h.se i d);exact⟨a,c1,b,c2,c,c3,e,f,g⟩
section
variable {w : World} {base g c k N lim : Nat} {S : Nat -> zY} {A B D : Nat -> Value}
theorem qC.put3 {m:zY}{x s u H I J:Option Addr}{C y z K L M:Nat}(h:qC w base (some (g,0),N,c) N S A B D)(hk:k<N)(P:A k=.slice x (S k).stn C)(Q:B k=.slice s (S k).ron y)(R:D k=.slice u (S k).sen z)
  (l:∀ i,i<N->(∀ b,(A i).ownBlock=some b->b<lim)/\(∀ b,(B i).ownBlock=some b->b<lim)/\(∀ b,(D i).ownBlock=some b->b<lim)) (p:base<=lim) (r:zaV w lim (S k) m x s u C y z H K I L J M) :
  qC (((w.setCell (g,k*3) (H,m.stn,K)).setCell (g,k*3+1) (I,m.ron,L)).setCell (g,k*3+2) (J,m.sen,M)) base (some (g,0),N,c) N (zht S k m) (atV A k (H,m.stn,K)) (atV B k (I,m.ron,L)) (atV D k (J,m.sen,M)):=by
 have O:zx w (((w.setCell _ (H,m.stn,K)).setCell _ (I,m.ron,L)).setCell _ (J,m.sen,M)) _:=(((zx.refl w (λb=>b=g)).set (a:=(g,k*3)) rfl _).set (a:=(g,k*3+1)) rfl _).set (a:=(g,k*3+2)) rfl _
 have far:∀ {t sz n:Nat} {v} {xs},_->145≠t->(((w.setCell _ _).setCell _ _).setCell _ _).ownsRow base t sz v n xs:=λT U=>O.own T (λq h1 h2=>zI h.row T U q (by rw[show _ from h2];rfl) h1)
 have o:∀ (F),atV F k (F k)=F:=λF=>by
  funext i
  by_cases e:i=k
  ·subst e;exact qu _ _ _
  ·exact qf _ _ _ _ e
 refine⟨zbs (zmM _ _ _ h.row (by unfold ldC;rfl)) (by decide) (λi f=>?_),λi f=>?_,λi f=>?_,λi f=>?_,?_,?_,?_⟩
 ·by_cases e:i=k
  ·subst e;rw[Jf rfl];unfold ldC;rw[qu,qu,qu]
  ·rw[Je e];unfold ldC;rw[qf _ _ _ _ e,qf _ _ _ _ e,qf _ _ _ _ e]
 ·by_cases e:i=k
  ·subst e
   rw[qu,zbi]
   rcases r.1 with⟨d,E,G⟩|d
   ·refine far ?_ (by decide)
    rw[d,E,G,← P];exact h.st i f
   ·exact far (zu d p) (by decide)
  ·rw[qf _ _ _ _ e,zbj _ _ _ e];exact far (h.st i f) (by decide)
 ·by_cases e:i=k
  ·subst e
   rw[qu,zbi]
   rcases r.2.1 with⟨d,E,G⟩|d
   ·refine far ?_ (by decide)
    rw[d,E,G,← Q];exact h.ro i f
   ·exact far (zu d p) (by decide)
  ·rw[qf _ _ _ _ e,zbj _ _ _ e];exact far (h.ro i f) (by decide)
 ·by_cases e:i=k
  ·subst e
   rw[qu,zbi]
   rcases r.2.2 with⟨d,E,G⟩|d
   ·refine far ?_ (by decide)
    rw[d,E,G,← R];exact h.se i f
   ·exact far (zu d p) (by decide)
  ·rw[qf _ _ _ _ e,zbj _ _ _ e];exact far (h.se i f) (by decide)
 ·rcases r.1 with⟨d,_,_⟩|d
  ·rw[d,← P,o];exact h.far.1
  ·exact h.far.1.put (λi f b j=>(l i f).1 b j) (λb j=>(d.lt b j).1)
 ·rcases r.2.1 with⟨d,_,_⟩|d
  ·rw[d,← Q,o];exact h.far.2.1
  ·exact h.far.2.1.put (λi f b j=>(l i f).2.1 b j) (λb j=>(d.lt b j).1)
 ·rcases r.2.2 with⟨d,_,_⟩|d
  ·rw[d,← R,o];exact h.far.2.2
  ·exact h.far.2.2.put (λi f b j=>(l i f).2.2 b j) (λb j=>(d.lt b j).1)
end
def BehindAns (pe:Nat->Addr)(x:Off)(a:List Wk)(base:Nat)(e:Ending)(w:World):Prop :=
 (∃ (M:Nat->zY) (b:Option Addr) (d:Nat) (A B D:Nat->Value),e=.returned (b,x.ldn,d)/\zav x a a.length M/\qC w base (b,x.ldn,d) x.ldn M A B D) ∨
 (∃ (j:Nat) (M:Nat->zY) (v:Wk) (k c:Nat),e=zmK pe c/\1<=c/\c<=8/\zav x a j M/\a[j]?=some v/\zW x.sa v.leg x.san=k/\k<x.san/\qV (x.sa k) v (M k) (c:Int) (M k))
theorem znU (x:Off)(a1 a2 a3:Option Addr)(c1 c2 c3:Nat)(L C A B D E:Nat->Value)(G:List Wk)(aw:Option Addr)(cw base wb:Nat)(pe:Nat->Addr)(w:World)(hO:Zk x)(hs:Off.Short x 1048576)(hd:G.Pairwise zdu)(e6:∀ v ∈ G,Apt x x.ld v/\WkOk x v)(he:qY w pe)
  (a0:zF w base (a1,x.san,c1) (a2,x.ldn,c2) (a3,x.bkn,c3) x.san x.ldn x.bkn x L C A B D E) (d8:base<=w.heap.size) (e5:w.ownsRow wb 268 10 (aw,G.length,cw) G.length (zgF G)) (j2:G.length<=18) :
  Calls prog 108 #[.agg #[(a1,x.san,c1),(a2,x.ldn,c2),(a3,x.bkn,c3)],(aw,G.length,cw)] w λe w'=>BehindAns pe x G base e w'/\Below w.heap.size w w':=by
 have HS:=hI hs;have HD:=hI hd;have d5:=hI e6;have g1:=hI hO;have HE:=hI he;have u:=hI a0;have d4:=hI e5;have n7:=hs.2.1.1;have n8:=hs.1.1;have e4:=hO.2.1;have f9:=hI e4;obtain⟨o1,o2,oe,q1,q2,q3⟩:=zp a0.ld.row;simp only[Value.slice.injEq,true_and] at oe;obtain⟨rfl,rfl⟩:=oe;have g2:=hI q3;clear hs hd e6 hO he a0 e5 q1 q2 q3 e4;have N:Below _ w (w.alloc (.cells #[(a1,x.san,c1),(a2,x.ldn,c2),(a3,x.bkn,c3)] 38)):=zk bZ _;have bO:=Jb w (.cells #[(a1,x.san,c1),(a2,x.ldn,c2),(a3,x.bkn,c3)] 38);go_enter func108,ntmps108;go_wp2_with fail;generalize w.alloc _=V at N bO ⊢;refine(cloneLoad a2 _ c2 _ V n7 (by unfold zdZ;simp) (ldRow_one (λi W=>by obtain⟨a1,c1,a2,c2,a3,c3,e1,e2,e3⟩:=u.ld.forms W;exact⟨a1,_,c1,a2,_,c2,a3,_,c3,e1,e2,e3⟩)) ((zdz u.ld.row).below N) g2).mono ?_
 rintro e V1 ⟨⟨gv,rfl,ho⟩,a9⟩;obtain⟨ga,gc,rfl,_,_,_⟩:=zp ho;have m:=ze N a9;have J:=zb bO a9;have H:Hid (qC V1 _ _ _ _ A B D):=⟨zu ho (Jp d8 N.size),λi W=>zo m (u.ld.st i W),λi W=>zo m (u.ld.ro i W),λi W=>zo m (u.ld.se i W),u.ld.far⟩
 have n:=hI (zav.start g1 (λv hv=>(d5 v hv).1))
 have b8:=hI ho;have i9:=N.size;clear ho a9 N bO;go_wp2;have d0:Hid (∀ z,_->qB z a1 _ _):=λz d=>(u.sa.below d).at
 have e8:Hid (∀ b,_->w.heap.size<=b):=λb e=>by have h1:=b8.lt b e;omega
 go_loopw [7,8,9,15] (λ_ _ _ q wr=>∃ (j:Nat) (M:_) (A B D:_),j<=G.length/\q=int i64 j/\Hid (zav x G j M)/\Hid (qC wr base (ga,x.ldn,gc) x.ldn M A B D)/\wr.heap[w.heap.size]?=some (.cells #[(a1,x.san,c1),(a2,x.ldn,c2),(a3,x.bkn,c3)] 38 (0,0))/\Below w.heap.size w wr) (λ_ _ _ q _=>G.length - (intOf q).toNat)
 case atStart=>exact⟨0,_,A,B,D,Jq _,rfl,n,H,J,m⟩
 case round =>
  clear n H u J m b8 A B D;obtain⟨j,M,A,B,D,hj,rfl,n,H,J,m⟩:=hrel
  by_cases hlt:j<G.length
  ·obtain⟨v,hv⟩:∃ v,_=some v:=⟨_,List.getElem?_eq_getElem hlt⟩
   have HV:=hI hv;have R:=hI (d5 v (List.mem_of_getElem? hv)).2;obtain⟨k,b5⟩:∃ k,k=zW x.sa v.leg x.san:=⟨_,rfl⟩;have HK:=hI b5.symm;have hk:k<x.san:=by rw[b5];exact R.2.1
   clear b5;obtain⟨gw,i5,i7,d9⟩:=qh d4 (by omega)
   subst i5;have f:∀ r,r<10->wr.cell? ⟨gw,j*10+r,_⟩=_:=λr hr=>by
    rw[m.cell d9,d4.out.cellAt _ (by omega),zmN G j v hv r hr]
   have c0:wr.cell? ⟨gw,j*10,_⟩=some _:=f 0 (by decide)
   have c1:wr.cell? _=some _:=f 1 (by decide)
   have c2:wr.cell? _=some _:=f 2 (by decide)
   have c3:wr.cell? _=some _:=f 3 (by decide)
   have c4:wr.cell? _=some _:=f 4 (by decide)
   have c5:wr.cell? _=some _:=f 5 (by decide)
   have c6:wr.cell? _=some _:=f 6 (by decide)
   have c7:wr.cell? _=some _:=f 7 (by decide)
   have c8:wr.cell? _=some _:=f 8 (by decide)
   have c9:wr.cell? _=some _:=f 9 (by decide)
   clear f hv;have bX:=Jb wr (.cells #[v.leg,(v.res:Int),v.who,v.p.pe,v.p.len,v.p.hei,v.p.cl,v.p.all,v.p.be,v.goes] 268);have o:=zk m (.cells #[v.leg,(v.res:Int),v.who,v.p.pe,v.p.len,v.p.hei,v.p.cl,v.p.all,v.p.be,v.goes] 268);have y:=zd J (.cells #[v.leg,(v.res:Int),v.who,v.p.pe,v.p.len,v.p.hei,v.p.cl,v.p.all,v.p.be,v.goes] 268);have c:Hid (qC (wr.alloc (.cells #[v.leg,(v.res:Int),v.who,v.p.pe,v.p.len,v.p.hei,v.p.cl,v.p.all,v.p.be,v.goes] 268)) _ _ _ M A B D):=H.below (zk bZ _);go_upto_region 5 with fail;generalize wr.alloc _=Y at bX o y c ⊢;generalize hwx:wr.heap.size=wx at bX ⊢;have i8:w.heap.size<wx:=by have:=zM J;omega
   clear c0 c1 c2 c3 c4 c5 c6 c7 c8 c9 m J H hwx wr;have y0:=za y 0 _ rfl;have y1:=za bX 0 _ rfl;go_wp2_with fail;clear y0 y1;refine(zaF a1 _ c1 _ _ Y n8 (d0 Y o)).mono ?_;rintro e Z ⟨a4,T⟩;replace a4:e=.returned (.tuple #[(k:Int),.bool true]):=by
    rw[HK.out] at a4
    rcases a4 with⟨_,q⟩|⟨q,_⟩
    ·exact q
    ·omega
   subst a4;replace bX:=zb bX T;replace o:=ze o T;replace y:=zb y T;replace c:=hI (c.below T);clear T Y;have b6:k<x.ldn:=by have:=f9.out;omega
   obtain⟨g,i6,j0,j1⟩:=qh c.row (by omega)
   subst i6;have b4:=e8 g rfl;obtain⟨sb,so,g5,h4,g4,h0,rfl,f0,f1,f2,f3,f4,f5,f6,f7,b7,b0,_,_⟩:=d0 Z o k hk;obtain⟨s,a5⟩:∃ s,s=x.sa k:=⟨_,rfl⟩;rw[← a5] at f0 f1 f2 f3 f4 f5 f6 f7 b7 b0;have a7:=hI a5;have f8:=hI b7;have e7:=hI b0;have g3:Hid (s.la.n<=1048576/\s.ca.n<=1048576):=by rw[a5];exact⟨(HS.1.2 k hk).2.2.1,(HS.1.2 k hk).2.2.2⟩
   obtain⟨l,Q⟩:∃ l,l=M k:=⟨_,rfl⟩;have t:=hI Q;obtain⟨g8,h7,g6,h5,g7,h6,e1,e2,e3⟩:=c.forms b6;have X:=c.is b6;have l0:=zs c.row (k*3+0) (by omega) rfl
   have l1:=zs c.row (k*3+1) (by omega) rfl
   have F:=zs c.row (k*3+2) (by omega) rfl
   rw[zC 3 _ k _ (by decide)] at l0 l1 F
   unfold ldC at l0 l1 F X;rw[e1,e2,e3] at X;replace l0:Z.cell? ⟨g,k*3,_⟩=some (A k):=l0;replace l1:_=some (B k):=l1;replace F:_=some (D k):=F;rw[e1,← Q] at l0;rw[e2,← Q] at l1;rw[e3,← Q] at F;rw[← Q] at X e1 e2 e3;have e9:=hI X;have a6:Hid (_/\_/\_):=⟨e1,e2,e3⟩;clear a5 Q X e1 e2 e3 b7 b0;have i0:(0:Int)<=(k:Int):=by omega
   have i1:(k:Int)<(x.san:Int):=by omega
   have i2:(k:Int)<(x.ldn:Int):=by omega
   have y0:=za y 0 _ rfl;obtain⟨x0,x1,x2,x3,x4,x5,x6,x7,x8,x9⟩:=ce10 bX;have a8:Hid (∀ z,Below _ Z z->z.cell? _=some (.int _ _)/\z.cell? _=some (.int _ _)/\z.cell? _=some (.int _ _)/\z.cell? _=some (.int _ _)/\z.cell? _=some (.int _ _)/\z.cell? _=some (.int _ _)/\z.cell? _=some (.int _ _)/\z.cell? _=some (.bool _)/\z.cell? _=some (.int _ _)/\z.cell? _=some (.bool _)/\z.cell? _=some (.slice _ _ c1)/\_/\_/\_/\_/\_/\_/\_/\_/\_/\_/\_):=λz d=>⟨(d.cell (Ja Z _ x0)).trans x0,(d.cell (Ja Z _ x1)).trans x1,(d.cell (Ja Z _ x2)).trans x2,(d.cell (Ja Z _ x3)).trans x3,(d.cell (Ja Z _ x4)).trans x4,(d.cell (Ja Z _ x5)).trans x5,(d.cell (Ja Z _ x6)).trans x6,(d.cell (Ja Z _ x7)).trans x7,(d.cell (Ja Z _ x8)).trans x8,(d.cell (Ja Z _ x9)).trans x9,(d.cell (Ja Z _ y0)).trans y0,(d.cell (Ja Z _ f0)).trans f0,(d.cell (Ja Z _ f1)).trans f1,(d.cell (Ja Z _ f2)).trans f2,(d.cell (Ja Z _ f3)).trans f3,(d.cell (Ja Z _ f4)).trans f4,(d.cell (Ja Z _ f5)).trans f5,(d.cell (Ja Z _ f6)).trans f6,(d.cell (Ja Z _ f7)).trans f7,(d.cell (Ja Z _ l0)).trans l0,(d.cell (Ja Z _ l1)).trans l1,(d.cell (Ja Z _ F)).trans F⟩
   clear y0 x0 x1 x2 x3 x4 x5 x6 x7 x8 x9 f0 f1 f2 f3 f4 f5 f6 f7 l0 l1 F;go_upto_region 6 with fail;refine qg 14 15 (λw'=>w'.cell? _=_/\w'.cell? _=_/\w'.cell? _=_/\w'.cell? _=_/\w'.cell? _=_/\w'.cell? _=_/\w'.cell? _=_/\w'.cell? _=_/\w'.cell? _=_/\w'.cell? _=_/\w'.cell? _=_/\w'.cell? _=_/\w'.cell? _=_/\w'.cell? _=_/\w'.cell? _=_/\w'.cell? _=_/\w'.cell? _=_/\w'.cell? _=_/\w'.cell? _=_/\w'.cell? _=_/\w'.cell? _=_/\w'.cell? _=_) rfl (by kernel_rfl) (a8 _ bZ.drew) (λhS=>?_)
   simp only[List.replicate_succ,List.replicate_zero]
   iterate 12 (refine tFL 0 (v:=?_) rfl (by kernel_rfl) (λ_ _ _ h=>h) rfl (by assumption) ?_ ?_;rotate_left;(focus(intro w' h;(try dsimp only at h);go_simp;try with_reducible rfl));simp only[Act.put,sB,sZ,sS])
   refine zj (rs:=[12]) (by kernel_rfl) (by simp) ?_
   refine zc.consL rfl (λK hK=>?_) zc.nil
   go_simp;go_at_call 199;have P:Below Z.heap.size Z _:=bZ.drew;refine Jm (done_any s v l g5 g4 g8 g6 g7 h4 h0 h7 h5 h6 pe _ (HE.below (ze o P)) (by rw[a7.out,t.out];exact n.good k hk) R.1 R.2.2 ?_ g3 (f8.below P) (e7.below P) (e9.below P)) ?_
   ·rw[t.out]
    split
    ·rename_i hg;exact n.there HV HK hk hg
    ·rename_i hg;exact(n.comes HV HK hk R (by simpa using hg)).2.2.2
   rintro e U ⟨d7,i4⟩;have O:=ze P i4
   rcases d7 with⟨F,b1,d1,b2,d2,b3,d3,rfl,hW,d6⟩|⟨cd,h1,h8,rfl,hW⟩
   ·dsimp only
    have I:=hI (c.below O);have b9:=hI (I.put3 b6 (by rw[← t.out];exact a6.1) (by rw[← t.out];exact a6.2.1) (by rw[← t.out];exact a6.2.2) (λi W=>⟨λb e=>((c.st i W).lt b e).2,λb e=>((c.ro i W).lt b e).2,λb e=>((c.se i W).lt b e).2⟩) (Jp d8 (ze o P).size) (by rw[← t.out];exact d6))
    have g0:=hI (n.next HD HV HK hk R (by rw[← a7.out,← t.out];exact hW))
    have e0:zx U (((U.setCell _ (b1,F.stn,d1)).setCell _ (b2,F.ron,d2)).setCell _ (b3,F.sen,d3)) _:=(((zx.refl U (λb=>b=g)).set (a:=(g,k*3)) rfl _).set (a:=(g,k*3+1)) rfl _).set (a:=(g,k*3+2)) rfl _
    have g9:=e0.blk (zb y O) (show _ from λe=>by obtain⟨cs,e2⟩:=zA I.row g rfl;rw[← e,zb y O] at e2;simp at e2)
    have i3:Below _ w (((U.setCell _ (b1,F.stn,d1)).setCell _ (b2,F.ron,d2)).setCell _ (b3,F.sen,d3)):=(((ze o O).setCell (p:=(g,k*3)) b4 _).setCell (p:=(g,k*3+1)) b4 _).setCell (p:=(g,k*3+2)) b4 _;have S:=a8 U O;have z0:=S.2.2.2.2.2.2.2.2.2.2.2.2.2.2.2.2.2.2.2.1;have z1:=S.2.2.2.2.2.2.2.2.2.2.2.2.2.2.2.2.2.2.2.2.1;have z2:=S.2.2.2.2.2.2.2.2.2.2.2.2.2.2.2.2.2.2.2.2.2;have q0:=I.row.frozenAt (k*3);have q1:=I.row.frozenAt (k*3+1);have q2:=I.row.frozenAt (k*3+2);refine hK _ _ S (λhS=>?_)
    clear hK K S;simp only[sZ,sS]
    (refine tFL 13 (v:=?_) rfl (by kernel_rfl) (λ_ _ _ h=>h) rfl (by assumption) ?_ ?_;rotate_left;(focus(intro w' h;(try dsimp only at h);go_simp;try with_reducible rfl));simp only[Act.put,sB,sZ,sS])
    refine zj (rs:=[14]) (by kernel_rfl) (by simp) ?_
    refine zc.lastL rfl (λK hK=>?_)
    go_simp;refine hK _ _ ?_;clear hK K e0 c I a8 hS z0 z1 z2 q0 q1 q2 hW d6;refine zX (by kernel_rfl) ?_ _
    go_wp2;go_roundw
    case rel=>exact⟨_,_,_,_,_,by omega,by go_num,g0,b9,g9,i3⟩
    case measure=>simp[intOf];omega
   ·unfold zmK
    dsimp only;exact⟨rfl,.inr ⟨j,M,v,k,cd,rfl,h1,h8,n,HV,HK,hk,by rw[← a7.out,← t.out];exact hW⟩,ze o O⟩
  ·obtain rfl:j=G.length:=by omega
   go_wp2;go_ret;exact⟨.inl ⟨M,ga,gc,A,B,D,rfl,n,H⟩,m⟩
end
theorem znV (x y:Int)(w:World) :
  Calls prog 225 #[x,y] w λe w'=>e=.returned (Ql x y)/\w'=w:=by
 obtain⟨V,f⟩:∃ V,V=Ql x y:=⟨_,rfl⟩;rw[← f];have b:=hI f;clear f
 by_cases h0:zbA x y
 ·have j:=Jd h0
  have c:=hI h0;have i:=hI h0.1;clear h0
  by_cases h1:600<x
  ·have k:=Jd h1
   have h2:450<x:=by omega
   have g:=Jd h2;have h:=i.out;unfold In at h;have l:IntKind.i64.wrap (x - 600)=x - 600:=by rw[Jk];omega
   have m:IntKind.i64.wrap (x - 600+99)=x - 600+99:=by rw[Jk];omega
   have hq:Int.tdiv (x - 600+99) 100=(x - 600+99) / 100:=by rw[Int.tdiv_eq_ediv_of_nonneg (by omega)]
   have n:IntKind.i64.wrap ((x - 600+99) / 100)=(x - 600+99) / 100:=by rw[Jk];omega
   have o:IntKind.i64.wrap (25*((x - 600+99) / 100))=25*((x - 600+99) / 100):=by rw[Jk];omega
   have p:IntKind.i64.wrap (90+25*((x - 600+99) / 100))=90+25*((x - 600+99) / 100):=by rw[Jk];omega
   have q:IntKind.i64.wrap (90+25*((x - 600+99) / 100)+30)=90+25*((x - 600+99) / 100)+30:=by rw[Jk];omega
   clear h
   by_cases h5:220<y
   ·have d:=Jd h5
    have a:Hid (V=90+25*((x - 600+99) / 100)+30):=by show V=_;rw[b.out];unfold Ql;rw[Jf c.out];simp only[Jf h1,Jf h5];(try omega)
    rw[a.out];go_enter func225,ntmps225;go_wp2_with (first|(go_at_call 224;refine sC (Zc _ _ _) ?_))
    go_ret;exact⟨rfl,rfl⟩
   ·have d:=Jc h5
    have a:Hid (V=90+25*((x - 600+99) / 100)):=by show V=_;rw[b.out];unfold Ql;rw[Jf c.out];simp only[Jf h1,Je h5];(try omega)
    rw[a.out];go_enter func225,ntmps225;go_wp2_with (first|(go_at_call 224;refine sC (Zc _ _ _) ?_))
    go_ret;exact⟨rfl,rfl⟩
  ·have k:=Jc h1
   by_cases h2:450<x
   ·have g:=Jd h2
    by_cases h5:220<y
    ·have d:=Jd h5
     have a:Hid (V=90+30):=by show V=_;rw[b.out];unfold Ql;rw[Jf c.out];simp only[Je h1,Jf h2,Jf h5];(try omega)
     rw[a.out];go_enter func225,ntmps225;go_wp2_with (first|(go_at_call 224;refine sC (Zc _ _ _) ?_))
     go_ret;exact⟨rfl,rfl⟩
    ·have d:=Jc h5
     have a:Hid (V=90):=by show V=90;rw[b.out];unfold Ql;rw[Jf c.out];simp only[Je h1,Jf h2,Je h5];(try omega)
     rw[a.out];go_enter func225,ntmps225;go_wp2_with (first|(go_at_call 224;refine sC (Zc _ _ _) ?_))
     go_ret;exact⟨rfl,rfl⟩
   ·have g:=Jc h2
    by_cases h5:220<y
    ·have d:=Jd h5
     have a:Hid (V=60+30):=by show V=_;rw[b.out];unfold Ql;rw[Jf c.out];simp only[Je h1,Je h2,Jf h5];(try omega)
     rw[a.out];go_enter func225,ntmps225;go_wp2_with (first|(go_at_call 224;refine sC (Zc _ _ _) ?_))
     go_ret;exact⟨rfl,rfl⟩
    ·have d:=Jc h5
     have a:Hid (V=60):=by show V=60;rw[b.out];unfold Ql;rw[Jf c.out];simp only[Je h1,Je h2,Je h5];(try omega)
     rw[a.out];go_enter func225,ntmps225;go_wp2_with (first|(go_at_call 224;refine sC (Zc _ _ _) ?_))
     go_ret;exact⟨rfl,rfl⟩
 ·have j:=Jc h0
  have a:Hid (V=0):=by rw[b.out];exact Je h0
  rw[a.out];clear h0;go_enter func225,ntmps225;go_wp2_with (first|(go_at_call 224;refine sC (Zc _ _ _) ?_))
  go_ret;exact⟨rfl,rfl⟩
theorem zje (cl:Int)(all:Bool)(be:Int)(w:World) :
  Calls prog 226 #[cl,all,be] w λe w'=>e=.returned (Zs cl all be)/\Below w.heap.size w w':=by
 obtain⟨V,f⟩:∃ V,V=Zs cl all be:=⟨_,rfl⟩;rw[← f];have b:=hI f;clear f
 by_cases h1:In cl 1 3
 ·have j:=Jd h1
  have c:=hI h1
  cases all with
  | true =>
   by_cases h2:be=0
   ·subst h2
    have h3:cl=1∨cl=2∨cl=3:=by unfold In at h1;omega
    clear h1
    rcases h3 with rfl|rfl|rfl
    ·have a:Hid (V=90):=by show V=90;rw[b.out];exact Jf ⟨c,.inl ⟨rfl,rfl⟩⟩
     rw[a.out];go_enter func226,ntmps226;go_wp2_with (first|(go_at_call 148;refine sC (zt _ _ _ _) ?_))
     go_ret;exact⟨rfl,zk bZ _⟩
    ·have a:Hid (V=150):=by show V=150;rw[b.out];exact Jf ⟨c,.inl ⟨rfl,rfl⟩⟩
     rw[a.out];go_enter func226,ntmps226;go_wp2_with (first|(go_at_call 148;refine sC (zt _ _ _ _) ?_))
     go_ret;exact⟨rfl,zk bZ _⟩
    ·have a:Hid (V=240):=by show V=240;rw[b.out];exact Jf ⟨c,.inl ⟨rfl,rfl⟩⟩
     rw[a.out];go_enter func226,ntmps226;go_wp2_with (first|(go_at_call 148;refine sC (zt _ _ _ _) ?_))
     go_ret;exact⟨rfl,zk bZ _⟩
   ·have g:(be == 0)=false:=by simpa using h2
    have e3:(be != 0)=true:=by simpa using h2
    have a:Hid (V=0):=by rw[b.out];exact Je (λh=>by rcases h.2 with h|h;exact h2 h.2;cases h.1)
    rw[a.out];clear h1 h2;go_enter func226,ntmps226;go_wp2_with (first|(go_at_call 148;refine sC (zt _ _ _ _) ?_))
    go_ret;exact⟨rfl,bZ⟩
  | false =>
   by_cases h2:In be 1 4
   ·have g:=Jd h2
    have d:=hI h2;have h3:cl=1∨cl=2∨cl=3:=by unfold In at h1;omega
    have h4:_/\_:=h2;clear h1 h2
    rcases h3 with rfl|rfl|rfl
    ·have a:Hid (V=30*be):=by show V=_;rw[b.out];unfold Zs;rw[Jf ⟨c.out,.inr ⟨rfl,d.out⟩⟩];rfl
     rw[a.out];have i:IntKind.i64.wrap (30*be)=30*be:=by rw[Jk];omega
     go_enter func226,ntmps226;go_wp2_with (first|(go_at_call 148;refine sC (zt _ _ _ _) ?_))
     go_ret;exact⟨rfl,zk bZ _⟩
    ·have a:Hid (V=50*be):=by show V=_;rw[b.out];unfold Zs;rw[Jf ⟨c.out,.inr ⟨rfl,d.out⟩⟩];rfl
     rw[a.out];have i:IntKind.i64.wrap (50*be)=50*be:=by rw[Jk];omega
     go_enter func226,ntmps226;go_wp2_with (first|(go_at_call 148;refine sC (zt _ _ _ _) ?_))
     go_ret;exact⟨rfl,zk bZ _⟩
    ·have a:Hid (V=80*be):=by show V=_;rw[b.out];unfold Zs;rw[Jf ⟨c.out,.inr ⟨rfl,d.out⟩⟩];rfl
     rw[a.out];have i:IntKind.i64.wrap (80*be)=80*be:=by rw[Jk];omega
     go_enter func226,ntmps226;go_wp2_with (first|(go_at_call 148;refine sC (zt _ _ _ _) ?_))
     go_ret;exact⟨rfl,zk bZ _⟩
   ·have g:=Jc h2
    have a:Hid (V=0):=by rw[b.out];exact Je (λh=>by rcases h.2 with h|h;cases h.1;exact h2 h.2)
    rw[a.out];clear h1 h2;go_enter func226,ntmps226;go_wp2_with (first|(go_at_call 148;refine sC (zt _ _ _ _) ?_))
    go_ret;exact⟨rfl,bZ⟩
 ·have j:=Jc h1
  have a:Hid (V=0):=by rw[b.out];exact Je (λh=>h1 h.1)
  rw[a.out];clear h1
  cases all with
  | true =>
   go_enter func226,ntmps226;go_wp2_with (first|(go_at_call 148;refine sC (zt _ _ _ _) ?_))
   go_ret;exact⟨rfl,bZ⟩
  | false =>
   go_enter func226,ntmps226;go_wp2_with (first|(go_at_call 148;refine sC (zt _ _ _ _) ?_))
   go_ret;exact⟨rfl,bZ⟩
theorem Zy (pe len hei cl:Int)(all:Bool)(be legs:Int)(w:World)(y:In pe 0 20)(t:In legs 0 3) :
  Calls prog 169 #[.agg #[pe,len,hei,cl,all,be],legs] w λe w'=>e=.returned (zE ⟨pe,len,hei,cl,all,be⟩ legs)/\Below w.heap.size w w':=by
 obtain⟨V,q⟩:∃ V,V=zE ⟨pe,len,hei,cl,all,be⟩ legs:=⟨_,rfl⟩;rw[← q];obtain⟨b,h⟩:∃ c,c=Ql len hei:=⟨_,rfl⟩;obtain⟨j,f⟩:∃ c,c=Zs cl all be:=⟨_,rfl⟩;have s:Hid (V=zdb pe legs (legs*(40*pe+b+j))):=by show V=_;rw[q,h,f];rfl
 have b1:0<=b/\b<=500:=by rw[h];exact zbV len hei
 have b2:0<=j/\j<=320:=by rw[f];exact zbf cl all be
 have p:=hI h;have o:=hI f;unfold In at y t;have z:IntKind.i64.wrap (40*pe)=40*pe:=by rw[Jk];omega
 have A:IntKind.i64.wrap (40*pe+b)=40*pe+b:=by rw[Jk];omega
 have B:IntKind.i64.wrap (40*pe+b+j)=40*pe+b+j:=by rw[Jk];omega
 obtain⟨M,n⟩:∃ M,M=legs*(40*pe+b+j):=⟨_,rfl⟩;have m:0<=M/\M<=10000:=by
  have h3:legs=0∨legs=1∨legs=2∨legs=3:=by omega
  rw[n]
  rcases h3 with rfl|rfl|rfl|rfl <;> omega
 have C:IntKind.i64.wrap (legs*(40*pe+b+j))=M:=by rw[← n,Jk];omega
 have d:Hid (V=zdb pe legs M):=by show V=_;rw[s.out,n]
 have x:=hI t;clear q h f s n;have q1:Int.tdiv M 20=M / 20:=by rw[Int.tdiv_eq_ediv_of_nonneg m.1]
 have q2:Int.tdiv M 10=M / 10:=by rw[Int.tdiv_eq_ediv_of_nonneg m.1]
 have D:IntKind.i64.wrap (M / 20)=M / 20:=by rw[Jk];omega
 have E:IntKind.i64.wrap (M - M / 20)=M - M / 20:=by rw[Jk];omega
 have F:IntKind.i64.wrap (M / 10)=M / 10:=by rw[Jk];omega
 have G:IntKind.i64.wrap (M - M / 10)=M - M / 10:=by rw[Jk];omega
 have q3:Int.tdiv (M - M / 20) 10=(M - M / 20) / 10:=by rw[Int.tdiv_eq_ediv_of_nonneg (by omega)]
 have H:IntKind.i64.wrap ((M - M / 20) / 10)=(M - M / 20) / 10:=by rw[Jk];omega
 have I:IntKind.i64.wrap (M - M / 20 - (M - M / 20) / 10)=M - M / 20 - (M - M / 20) / 10:=by rw[Jk];omega
 go_enter func169,ntmps169;go_upto_region 1 with fail;have a:Below _ w (w.alloc (.cells #[pe,len,hei,cl,all,be] 45)):=zk bZ _;have i:=Jb w (.cells #[pe,len,hei,cl,all,be] 45);generalize w.alloc _=W at a i ⊢;have l:=zM i;have u:∀ g:zn W,g.val.cell? _=some (.int _ pe):=λg=>(g.bel.cell l).trans (za i 0 _ rfl)
 have N:∀ g:zn W,g.val.cell? _=some (.int _ len):=λg=>(g.bel.cell l).trans (za i 1 _ rfl)
 have O:∀ g:zn W,g.val.cell? _=some (.int _ hei):=λg=>(g.bel.cell l).trans (za i 2 _ rfl)
 have P:∀ g:zn W,g.val.cell? _=some (.int _ cl):=λg=>(g.bel.cell l).trans (za i 3 _ rfl)
 have Q:∀ g:zn W,g.val.cell? _=some (.bool all):=λg=>(g.bel.cell l).trans (za i 4 _ rfl)
 have R:∀ g:zn W,g.val.cell? _=some (.int _ be):=λg=>(g.bel.cell l).trans (za i 5 _ rfl)
 refine zh (by kernel_rfl) (by kernel_rfl) ?_
 repeat(first|go_big_quiet_skip|(go_big_quiet_want;go_big_quiet_op;first|go_big_quiet_on|(apply Jg;refine⟨λg=>?_,?_⟩;(focus(first|(go_at_call 225;refine zf (v:=int i64 b) ((znV _ _ _).mono ?_);rintro e J ⟨rfl,rfl⟩;exact⟨by rw[p.out],bZ⟩)|(go_at_call 226;refine zf (v:=int i64 j) ((zje _ _ _ _).mono ?_);rintro e J ⟨rfl,r⟩;exact⟨by rw[o.out],r⟩)));go_big_quiet_on)))
 refine Jl ?_;rintro _ ⟨g,rfl⟩;have y0:=u g;clear u N O P Q R
 by_cases k1:8<=pe
 ·have K:=Jd k1
  by_cases k2:legs=3
  ·subst k2
   have k:Hid (V=M - M / 20 - (M - M / 20) / 10):=by show V=_;rw[d.out];unfold zdb;rw[Jf k1,Jf rfl]
   clear k1;go_wp2;go_ret;exact⟨by rw[k.out];rfl,ze a g.bel⟩
  ·have L:(legs == 3)=false:=by simpa using k2
   have k:Hid (V=M - M / 20):=by show V=_;rw[d.out];unfold zdb;rw[Jf k1,Je k2]
   clear k1 k2;go_wp2;go_ret;exact⟨by rw[k.out];rfl,ze a g.bel⟩
 ·have K:=Jc k1
  by_cases k2:legs=3
  ·subst k2
   have k:Hid (V=M - M / 10):=by show V=_;rw[d.out];unfold zdb;rw[Je k1,Jf rfl]
   clear k1;go_wp2;go_ret;exact⟨by rw[k.out];rfl,ze a g.bel⟩
  ·have L:(legs == 3)=false:=by simpa using k2
   have k:Hid (V=M):=by show V=_;rw[d.out];unfold zdb;rw[Je k1,Je k2]
   clear k1 k2;go_wp2;go_ret;exact⟨by rw[k.out];rfl,ze a g.bel⟩
theorem l7End_4 (g base N R T S s u m:Nat)(O M K d:Option Addr)(F:Int)(y:OpD)(x:Off)(L C A B D E:Nat->Value)(w:World)(hq:w.heap[g]?=some (.cells #[(O,N,T),(M,N,S),(K,R,s)] 38 (0,0)))(ho:zF w base (O,N,T) (M,N,S) (K,R,s) N N R x L C A B D E)(b8:x.bkn=R)(b1:base<=w.heap.size)(Y:y.kind=4)(e5:In y.pe 0 20)(g0:y.lgn<=3)(b3:zT w d y.lgn y.lg)(b7:qj d y.lgn u)(b4:0<y.lgn->∀ a,d=some a->a.block<base)(b5:y.name=(m:Int)+1)(hm:m<R)(l:R<=1048576) :
  Calls prog 93 #[.pointer (some (g,0)),F,.agg (y,d,u)] w λe w'=>zdm g base N T S O M (λb=>b=g∨(Value.slice K R s).ownBlock=some b) { x with bk:=zah x.bk m (qx (x.bk m) F y) } 0 y.name ((x.bk m).price) (λ_ v=>v=.slice none 0 0) L C A B D w e w':=by
 rw[Y,b5];have HO:=hI ho;have HQ:=hI hq;have c9:=hI Y;have d2:=hI b8;have f4:=hI b1;have f6:=hI b3;have f9:=hI b7;have f7:=hI b4;obtain⟨gb,rfl,b0,d9⟩:=qh ho.bk.row (by omega)
 obtain⟨cs,b2⟩:=zA ho.bk.row gb rfl;obtain⟨d5,d4,eE,q1,q2,q3⟩:=zp (ho.bk.legs m hm);obtain⟨b,U⟩:∃ b,b=x.bk m:=⟨_,rfl⟩;have f1:=hI U;have a1:=hI b2;have I:Hid (∀ V,Below _ w V->∀ j v,(bkC _ E m)[j]?=some v->V.cell? _=some v):=λV hV j v hv=>by
  have hj:j<13:=by
   have h:=(List.getElem?_eq_some_iff.1 hv).1;exact h
  have h:=zs ho.bk.row (m*13+j) (by omega) rfl
  rw[zC 13 _ m j hj,List.getD_eq_getElem?_getD,hv] at h;exact(hV.cell d9).trans h
 have f5:Hid (E m=.slice d5 b.lgn d4):=by rw[U];exact eE
 have i1:(0:Int)<=(m:Int):=by omega
 have i2:(m:Int)<(R:Int):=by omega
 have g1:IntKind.i64.wrap ((m:Int)+1 - 1)=(m:Int):=by rw[Jk];omega
 have HM:=hI hm;have f2:=hI b0;clear b2 eE q1 q2 q3 U b0;clear ho hq Y b8 b1 b3 b7 b4 b5 hm;obtain⟨pr,Z⟩:∃ pr,pr=zE ⟨y.pe,y.len,y.hei,y.cl,y.all,y.be⟩ (y.lgn:Int):=⟨_,rfl⟩;have f8:=hI Z;have c:Below _ w ((w.alloc (.cells #[int i64 4,y.own,int i64 ((m:Int)+1),(d,y.lgn,u),y.pe,y.len,y.hei,y.cl,y.all,y.be,y.unt,y.now] 47)).alloc (.cells #[(),(),(),True] 41)):=zk (zk bZ _) _;have q:=zd (Jb w (.cells #[int i64 4,y.own,int i64 ((m:Int)+1),(d,y.lgn,u),y.pe,y.len,y.hei,y.cl,y.all,y.be,y.unt,y.now] 47)) (.cells #[(),(),(),True] 41);have t:=zfT w (.cells #[int i64 4,y.own,int i64 ((m:Int)+1),(d,y.lgn,u),y.pe,y.len,y.hei,y.cl,y.all,y.be,y.unt,y.now] 47) (.cells #[(),(),(),True] 41);go_enter func93,ntmps93;go_wp2_with fail;generalize ((w.alloc _).alloc _)=W at c q t ⊢;refine(Zy _ _ _ _ _ _ _ _ e5 (by unfold In;omega)).mono ?_
 rintro e V ⟨rfl,H⟩;rw[← Z];clear Z;replace c:=ze c H;replace q:=zb q H;replace t:=zb t H;clear H W;have o0:=za q 0 _ rfl;have n2:∀ G:zn V,G.val.cell? _=some (.slice _ R s):=λG=>za (zb HQ (ze c G.bel)) 2 _ rfl
 have m2:∀ G:zn V,G.val.cell? _=some (.int _ _):=λG=>za (zb q G.bel) 2 _ rfl
 go_upto_region 17 with fail;refine zh (by kernel_rfl) (by kernel_rfl) ?_
 repeat(first|go_big_quiet_skip|(go_big_quiet_want;go_big_quiet_op;first|go_big_quiet_on|fail))
 refine Jl ?_;rintro _ ⟨G,rfl⟩;replace c:=ze c G.bel;replace q:=zb q G.bel;replace t:=zb t G.bel;have e6:=zM t;have o2:=za q 2 _ rfl;clear o0 n2 m2;have o0:∀ o,(G.val.alloc o).cell? _=some (.int _ 4):=λo=>za (zd q o) 0 _ rfl
 go_upto_region 20 with fail;replace c:=zk c (.cells #[(),int i64 ((m:Int)+1),(),True] 41);replace q:=zd q (.cells #[(),int i64 ((m:Int)+1),(),True] 41);replace t:=zd t (.cells #[(),int i64 ((m:Int)+1),(),True] 41);have bT:=Jb G.val (.cells #[(),int i64 ((m:Int)+1),(),True] 41);generalize G.val.alloc _=X at c q t bT ⊢;generalize G.val.heap.size=tb at bT e6 ⊢;clear o0 o2 G V;have Q:=zb a1 c;have e7:=I X c 10 _ rfl;have e8:=I X c 11 _ rfl;have e9:=I X c 12 _ rfl;have d6:=zg Q (m*13+10);have d7:=zg Q (m*13+11);obtain⟨t0,t1,t2,t3⟩:=ce4 bT;go_upto_region 23 with fail;have J:Hid (qx (x.bk m) F y={ x.bk m with state:=2,unt:=0 }):=by show _=_;simp[qx,c9.out]
 have n:zx X ((X.setCell _ (int i64 2)).setCell _ ()) _:=(((zx.refl X (λb=>b=gb)).set (a:=(gb,m*13+10)) rfl _).set (a:=(gb,m*13+11)) rfl _)
 have p:Hid (((X.setCell (gb,m*13+10) (int i64 2)).setCell (gb,m*13+11) ()).ownsRow base 150 13 (some (gb,0),R,s) R (zbg (zah x.bk m (qx (x.bk m) F y)) (atV E m (E m)) R)):=by
  refine qR (zL (zL ((HO.below c).bk.row) _ _) _ _) (λj _=>zfd 13 (by decide) (k:=m) (C:=bkC x.bk E) (f:=λi=>if i=_ then _ else if i=_ then _ else _) (λr hr=>?_) (λj hj=>?_) (λi hi=>?_) j)
  ·have l:=zC 13 (bkC x.bk E) m r hr
   unfold bkC;rw[ZL,qu,J.out];unfold bkC at l;have b6:r=0∨r=1∨r=2∨r=3∨r=4∨r=5∨r=6∨r=7∨r=8∨r=9∨r=10∨r=11∨r=12:=by omega
   rcases b6 with rfl|rfl|rfl|rfl|rfl|rfl|rfl|rfl|rfl|rfl|rfl|rfl|rfl
   ·rw[Je (by omega),Je (by omega),l];rfl
   ·rw[Je (by omega),Je (by omega),l];rfl
   ·rw[Je (by omega),Je (by omega),l];rfl
   ·rw[Je (by omega),Je (by omega),l];rfl
   ·rw[Je (by omega),Je (by omega),l];rfl
   ·rw[Je (by omega),Je (by omega),l];rfl
   ·rw[Je (by omega),Je (by omega),l];rfl
   ·rw[Je (by omega),Je (by omega),l];rfl
   ·rw[Je (by omega),Je (by omega),l];rfl
   ·rw[Je (by omega),Je (by omega),l];rfl
   ·rw[Je (by omega),Jf rfl];rfl
   ·rw[Jf rfl];rfl
   ·rw[Je (by omega),Je (by omega),l];rfl
  ·rw[Je (by omega),Je (by omega)]
  ·unfold bkC
   rw[zaf _ _ _ hi,qf _ _ _ _ hi]
 have a5:=hI ((HO.below c).putBk n p (by rw[J.out];exact(HO.below c).bk.legs m HM) (HO.bk.far_same HM))
 have e4:g≠gb:=λe=>by have h:=a1.out;rw[← e,HQ.out] at h;simp at h
 have a6:=hI (n.blk (zb HQ c) e4);have z:=n.blk bT (by show _;omega)
 have a7:=n.blk t (by show _;omega)
 have a3:Hid (zx w _ (λb=>b=g∨(Value.slice (some (gb,0)) R s).ownBlock=some b)):=(zx.of_below c).trans (n.mono (λb e=>.inr (by rw[show _ from e];rfl)))
 have f0:((X.setCell (gb,m*13+10) (int i64 2)).setCell (gb,m*13+11) ()).cell? (gb,m*13+12)=some (x.bk m).price:=by
  have h:=zs p (m*13+12) (by have:=HM;omega) rfl
  rw[zC 13 _ m 12 (by decide)] at h
  unfold bkC at h;rw[ZL,J.out] at h;exact h
 generalize ((X.setCell _ _).setCell _ _)=Z1 at n p a5 a6 z a7 a3 f0 ⊢;clear n p bT t q Q t0 t1 t2 t3 e7 e8 e9 d6 d7;have a9:w.heap.size+1≠tb:=by omega
 obtain⟨d1,d8,d0,P,d3⟩:=zgr a3 a5 a6 a7 z a9 (by omega) ((x.bk m).price) rfl
 obtain⟨a4,a8,a2,bF⟩:=zbC d0 d1 d8 P (by omega) () (int i64 ((m:Int)+1)) ((x.bk m).price) True rfl
 obtain⟨t0,t1,t2,t3⟩:=ce4 d3;have s2:=za z 2 _ rfl;have s3:=zg z 2;obtain⟨v0,v1,v2,v3⟩:=ce4 P;obtain⟨e0,e1,e2,e3⟩:=fe4 P;have a0:=hI a4;have c0:=hI a8;have b9:=hI a2;clear a4 a8 a2;go_wp2;obtain⟨x0,x1,x2,x3⟩:=ce4 bF;refine Jj (v:=.agg #[(),int i64 ((m:Int)+1),((x.bk m).price),True]) (by simp[results,results93,go_sem,x0,x1,x2,x3]) rfl ?_
 have l:=d2;subst l;exact⟨_,_,_,_,rfl,rfl,a0,c0,b9⟩
theorem l7End_5 (g base N R a4 a3 H J m:Nat)(Z U b2 p:Option Addr)(l:Int)(y:OpD)(x:Off)(L C A B D E:Nat->Value)(w:World)(hq:w.heap[g]?=some (.cells #[(Z,N,a4),(U,N,a3),(b2,R,H)] 38 (0,0)))(ho:zF w base (Z,N,a4) (U,N,a3) (b2,R,H) N N R x L C A B D E)(g7:x.bkn=R)(e9:base<=w.heap.size)(b6:y.kind=5)(j5:In y.pe 0 20)(l9:y.lgn<=3)(g1:zT w p y.lgn y.lg)(g5:qj p y.lgn J)(g2:0<y.lgn->∀ a,p=some a->a.block<base)(g3:y.name=(m:Int)+1)(hm:m<R)(n:R<=1048576) :
  Calls prog 93 #[.pointer (some (g,0)),l,.agg (y,p,J)] w λe w'=>zdm g base N a4 a3 Z U (λb=>b=g∨(Value.slice b2 R H).ownBlock=some b) { x with bk:=zah x.bk m (qx (x.bk m) l y) } 0 y.name (zE ⟨y.pe,y.len,y.hei,y.cl,y.all,y.be⟩ (y.lgn:Int)) (λ_ v=>v=.slice none 0 0) L C A B D w e w':=by
 obtain⟨n0,ni,j8,j9,k0⟩:=info_parts Tryz.infoInt;rw[b6,g3];have HO:=hI ho;have HQ:=hI hq;have h5:=hI b6;have i6:=hI g7;have g9:=hI e9;have h7:=hI g1;have i5:=hI g5;have i0:=hI g2;obtain⟨gb,rfl,e8,j2⟩:=qh ho.bk.row (by omega)
 obtain⟨cs,f2⟩:=zA ho.bk.row gb rfl;obtain⟨i9,i8,eE,q1,q2,q3⟩:=zp (ho.bk.legs m hm);obtain⟨b,b5⟩:∃ b,b=x.bk m:=⟨_,rfl⟩;have l6:=hI b5;have c9:=hI f2;have h4:Hid (∀ V,Below _ w V->∀ j v,(bkC _ E m)[j]?=some v->V.cell? _=some v):=λV hV j v hv=>by
  have hj:j<13:=by
   have h:=(List.getElem?_eq_some_iff.1 hv).1;exact h
  have h:=zs ho.bk.row (m*13+j) (by omega) rfl
  rw[zC 13 _ m j hj,List.getD_eq_getElem?_getD,hv] at h;exact(hV.cell j2).trans h
 have l7:Hid (E m=.slice i9 b.lgn i8):=by rw[b5];exact eE
 have i1:(0:Int)<=(m:Int):=by omega
 have i2:(m:Int)<(R:Int):=by omega
 have m1:IntKind.i64.wrap ((m:Int)+1 - 1)=(m:Int):=by rw[Jk];omega
 have HM:=hI hm;have g8:=hI e8;clear f2 eE q1 q2 q3 b5 e8;clear ho hq b6 g7 e9 g1 g5 g2 g3 hm;obtain⟨pr,b8⟩:∃ pr,pr=zE ⟨y.pe,y.len,y.hei,y.cl,y.all,y.be⟩ (y.lgn:Int):=⟨_,rfl⟩;have d6:=hI b8;have c:Below _ w ((w.alloc (.cells #[int i64 5,y.own,int i64 ((m:Int)+1),(p,y.lgn,J),y.pe,y.len,y.hei,y.cl,y.all,y.be,y.unt,y.now] 47)).alloc (.cells #[(),(),(),True] 41)):=zk (zk bZ _) _;have M:=zd (Jb w (.cells #[int i64 5,y.own,int i64 ((m:Int)+1),(p,y.lgn,J),y.pe,y.len,y.hei,y.cl,y.all,y.be,y.unt,y.now] 47)) (.cells #[(),(),(),True] 41);have Q:=zfT w (.cells #[int i64 5,y.own,int i64 ((m:Int)+1),(p,y.lgn,J),y.pe,y.len,y.hei,y.cl,y.all,y.be,y.unt,y.now] 47) (.cells #[(),(),(),True] 41);go_enter func93,ntmps93;go_wp2_with fail;generalize ((w.alloc _).alloc _)=W at c M Q ⊢;refine(Zy _ _ _ _ _ _ _ _ j5 (by unfold In;omega)).mono ?_
 rintro e V ⟨rfl,a5⟩;rw[← b8];clear b8;replace c:=ze c a5;replace M:=zb M a5;replace Q:=zb Q a5;clear a5 W;have o0:=za M 0 _ rfl;have n2:∀ G:zn V,G.val.cell? _=some (.slice _ R H):=λG=>za (zb HQ (ze c G.bel)) 2 _ rfl
 have m2:∀ G:zn V,G.val.cell? _=some (.int _ _):=λG=>za (zb M G.bel) 2 _ rfl
 go_upto_region 17 with fail;refine zh (by kernel_rfl) (by kernel_rfl) ?_
 repeat(first|go_big_quiet_skip|(go_big_quiet_want;go_big_quiet_op;first|go_big_quiet_on|fail))
 refine Jl ?_;rintro _ ⟨G,rfl⟩;replace c:=ze c G.bel;replace M:=zb M G.bel;replace Q:=zb Q G.bel;have j6:=zM Q;have o2:=za M 2 _ rfl;clear o0 n2 m2;have o0:∀ o,(G.val.alloc o).cell? _=some (.int _ 5):=λo=>za (zd M o) 0 _ rfl
 go_upto_region 20 with fail;replace c:=zk c (.cells #[(),int i64 ((m:Int)+1),(),True] 41);replace M:=zd M (.cells #[(),int i64 ((m:Int)+1),(),True] 41);replace Q:=zd Q (.cells #[(),int i64 ((m:Int)+1),(),True] 41);have bT:=Jb G.val (.cells #[(),int i64 ((m:Int)+1),(),True] 41);generalize G.val.alloc _=X at c M Q bT ⊢;generalize G.val.heap.size=tb at bT j6 ⊢;clear o0 o2 G V;have e4:=zb c9 c;have k1:=h4 X c 1 _ rfl;have f1:=zg e4 (m*13+1);go_upto_region 26 with fail;have q:zx X (X.setCell _ l) _:=((zx.refl X (λb=>b=gb)).set (a:=(gb,m*13+1)) rfl _)
 have a8:Hid ((X.setCell (gb,m*13+1) l).ownsRow base 150 13 (some (gb,0),R,H) R (zbg (zah x.bk m { x.bk m with who:=l }) (atV E m (E m)) R)):=by
  refine qR (zL ((HO.below c).bk.row) _ _) (λj _=>zfd 13 (by decide) (k:=m) (C:=bkC x.bk E) (f:=λi=>if i=_ then _ else _) (λr hr=>?_) (λj hj=>?_) (λi hi=>?_) j)
  ·have n:=zC 13 (bkC x.bk E) m r hr
   unfold bkC;rw[ZL,qu];unfold bkC at n;have T:r=0∨r=1∨r=2∨r=3∨r=4∨r=5∨r=6∨r=7∨r=8∨r=9∨r=10∨r=11∨r=12:=by omega
   rcases T with rfl|rfl|rfl|rfl|rfl|rfl|rfl|rfl|rfl|rfl|rfl|rfl|rfl
   ·rw[Je (by omega),n];rfl
   ·rw[Jf (by omega)];rfl
   ·rw[Je (by omega),n];rfl
   ·rw[Je (by omega),n];rfl
   ·rw[Je (by omega),n];rfl
   ·rw[Je (by omega),n];rfl
   ·rw[Je (by omega),n];rfl
   ·rw[Je (by omega),n];rfl
   ·rw[Je (by omega),n];rfl
   ·rw[Je (by omega),n];rfl
   ·rw[Je (by omega),n];rfl
   ·rw[Je (by omega),n];rfl
   ·rw[Je (by omega),n];rfl
  ·rw[Je (by omega)]
  ·unfold bkC
   rw[zaf _ _ _ hi,qf _ _ _ _ hi]
 have O:=hI ((HO.below c).putBk q a8 ((HO.below c).bk.legs m HM) (HO.bk.far_same HM));have g0:g≠gb:=λe=>by have h:=c9.out;rw[← e,HQ.out] at h;simp at h
 have j4:=c.size;have qQ:=q.blk (zb HQ c) g0;have e5:=q.blk bT (by show _;omega)
 have d9:=q.blk Q (by show _;omega)
 have b4:=q.blk M (by show _;omega)
 have d2:Hid (zx w _ (λb=>b=g∨(Value.slice (some (gb,0)) R H).ownBlock=some b)):=(zx.of_below c).trans (q.mono (λb e=>.inr (by rw[show _ from e];rfl)))
 have j3:∀ z,Below X.heap.size X z->True:=λ_ _=>trivial
 have d3:=hI (ints_off q (h7.below c) i0 g8);have g4:=q.size;generalize (X.setCell _ _)=Y at q a8 O qQ e5 d9 b4 d2 d3 g4 ⊢;clear bT Q M k1 f1 e4 a8 q j3;have k2:∀ o,(Y.alloc o).cell? _=some (.slice p _ J):=λo=>za (zd b4 o) 3 _ rfl
 have b7:(Y.alloc _).ownsRow _ 3 1 _ 0 []:=⟨rfl,.inr ⟨_,0,#[],rfl,Jr _,Jb Y _,Jr _,Jq _,rfl,rfl⟩⟩;have h0:Hid (∀ ad,p=some ad->∀ j u,_->(Y.alloc (.cells #[] 3)).cell? _=_):=QY (d3.below (zk bZ _));obtain⟨l8,a7⟩:=zA O.bk.row gb rfl;have F:Hid (∀ V,Below _ Y V->∀ j v,(bkC (zah _ m _) _ m)[j]?=some v->V.cell? _=some v):=λV hV j v hv=>by
  have hj:j<13:=by
   have h:=(List.getElem?_eq_some_iff.1 hv).1;exact h
  have h:=zs O.bk.row (m*13+j) (by have:=HM;omega) rfl
  rw[zC 13 _ m j hj,List.getD_eq_getElem?_getD,hv] at h;exact(hV.cell (zM a7)).trans h
 have P:w.heap.size≠gb:=by omega
 go_upto_region 29 with(first|(at_builtin;refine zv _ rfl _ _ 27 rfl _ 3 n0 _ 1 8 underlying27 ni j8 j9 k0 rfl (by decide) _ 0 [] (by rfl) b7 p _ J _ rfl i5.2.2 (by rw[Zn,Nat.mul_one]) h0 (Qd _ _) (by unfold maxLen;omega) (by omega) (by simp) ?_;intro v4 s S f0;obtain⟨av,cv,g6,_⟩:=zp S;rw[Nat.zero_add] at g6;subst g6;have d:=(zk (Ji _ Y) _).grown f0 (by simp) (λj hj=>(b7.lt j hj).1);have I:=zb b4 d;have t:=zb a7 d;have k3:=F s d 3 _ rfl;have f3:=zg t (m*13+3);have k4:=F s d 4 _ rfl;have f4:=zg t (m*13+4);have k5:=F s d 5 _ rfl;have f5:=zg t (m*13+5);have k6:=F s d 6 _ rfl;have f6:=zg t (m*13+6);have k7:=F s d 7 _ rfl;have f7:=zg t (m*13+7);have k8:=F s d 8 _ rfl;have f8:=zg t (m*13+8);have k9:=F s d 9 _ rfl;have f9:=zg t (m*13+9);have j7:=F s d 12 _ rfl;have j0:=zg t (m*13+12);have l0:∀ v,(s.setCell _ v).cell? _=some (.int _ _):=λv=>za (zD I (m*13+3) v P) 4 _ rfl;have l1:∀ v,(s.setCell _ v).cell? _=some (.int _ _):=λv=>za (zD I (m*13+3) v P) 5 _ rfl;have l2:∀ v,(s.setCell _ v).cell? _=some (.int _ _):=λv=>za (zD I (m*13+3) v P) 6 _ rfl;have l3:∀ v,(s.setCell _ v).cell? _=some (.int _ _):=λv=>za (zD I (m*13+3) v P) 7 _ rfl;have l4:∀ v,(s.setCell _ v).cell? _=some (.bool _):=λv=>za (zD I (m*13+3) v P) 8 _ rfl;have l5:∀ v,(s.setCell _ v).cell? _=some (.int _ _):=λv=>za (zD I (m*13+3) v P) 9 _ rfl))
 have d4:Hid (qx (x.bk m) l y={ x.bk m with who:=l,lgn:=y.lgn,lg:=y.lg,pe:=y.pe,len:=y.len,hei:=y.hei,cl:=y.cl,all:=y.all,be:=y.be,price:=zE ⟨y.pe,y.len,y.hei,y.cl,y.all,y.be⟩ y.lgn }):=by show _=_;simp[qx,h5.out]
 have K:zx s ((((((((s.setCell _ (av,y.lgn,cv)).setCell _ y.pe).setCell _ y.len).setCell _ y.hei).setCell _ y.cl).setCell _ y.all).setCell _ y.be).setCell _ pr) _:=(((((((((zx.refl s (λb=>b=gb)).set (a:=(gb,m*13+3)) rfl _).set (a:=(gb,m*13+4)) rfl _).set (a:=(gb,m*13+4+1)) rfl _).set (a:=(gb,m*13+4+2)) rfl _).set (a:=(gb,m*13+4+3)) rfl _).set (a:=(gb,m*13+4+4)) rfl _).set (a:=(gb,m*13+4+5)) rfl _).set (a:=(gb,m*13+12)) rfl _)
 have a9:Hid (((((((((s.setCell (gb,m*13+3) (av,y.lgn,cv)).setCell (gb,m*13+4) y.pe).setCell (gb,m*13+4+1) y.len).setCell (gb,m*13+4+2) y.hei).setCell (gb,m*13+4+3) y.cl).setCell (gb,m*13+4+4) y.all).setCell (gb,m*13+4+5) y.be).setCell (gb,m*13+12) pr).ownsRow base 150 13 (some (gb,0),R,H) R (zbg (zah (zah x.bk m { x.bk m with who:=l }) m (qx (x.bk m) l y)) (atV (atV E m (E m)) m (av,y.lgn,cv)) R)):=by
  refine qR (zL (zL (zL (zL (zL (zL (zL (zL ((O.below d).bk.row) _ _) _ _) _ _) _ _) _ _) _ _) _ _) _ _) (λj _=>zfd 13 (by decide) (k:=m) (C:=bkC (zah x.bk m { x.bk m with who:=l }) (atV E m (E m))) (f:=λi=>if i=_ then _ else if i=_ then _ else if i=_ then _ else if i=_ then _ else if i=_ then _ else if i=_ then _ else if i=_ then _ else if i=_ then _ else zZ 13 (bkC (zah _ m { x.bk m with who:=l }) _) i) (λr hr=>?_) (λj hj=>?_) (λi hi=>?_) j)
  ·have n:=zC 13 (bkC (zah x.bk m { x.bk m with who:=l }) (atV E m (E m))) m r hr
   unfold bkC;rw[ZL,qu,d4.out];unfold bkC at n;have T:r=0∨r=1∨r=2∨r=3∨r=4∨r=5∨r=6∨r=7∨r=8∨r=9∨r=10∨r=11∨r=12:=by omega
   rcases T with rfl|rfl|rfl|rfl|rfl|rfl|rfl|rfl|rfl|rfl|rfl|rfl|rfl
   ·rw[Je (by omega),Je (by omega),Je (by omega),Je (by omega),Je (by omega),Je (by omega),Je (by omega),Je (by omega),n,ZL];rfl
   ·rw[Je (by omega),Je (by omega),Je (by omega),Je (by omega),Je (by omega),Je (by omega),Je (by omega),Je (by omega),n,ZL];rfl
   ·rw[Je (by omega),Je (by omega),Je (by omega),Je (by omega),Je (by omega),Je (by omega),Je (by omega),Je (by omega),n,ZL];rfl
   ·rw[Je (by omega),Je (by omega),Je (by omega),Je (by omega),Je (by omega),Je (by omega),Je (by omega),Jf (by omega)];rfl
   ·rw[Je (by omega),Je (by omega),Je (by omega),Je (by omega),Je (by omega),Je (by omega),Jf (by omega)];rfl
   ·rw[Je (by omega),Je (by omega),Je (by omega),Je (by omega),Je (by omega),Jf (by omega)];rfl
   ·rw[Je (by omega),Je (by omega),Je (by omega),Je (by omega),Jf (by omega)];rfl
   ·rw[Je (by omega),Je (by omega),Je (by omega),Jf (by omega)];rfl
   ·rw[Je (by omega),Je (by omega),Jf (by omega)];rfl
   ·rw[Je (by omega),Jf (by omega)];rfl
   ·rw[Je (by omega),Je (by omega),Je (by omega),Je (by omega),Je (by omega),Je (by omega),Je (by omega),Je (by omega),n,ZL];rfl
   ·rw[Je (by omega),Je (by omega),Je (by omega),Je (by omega),Je (by omega),Je (by omega),Je (by omega),Je (by omega),n,ZL];rfl
   ·rw[Jf (by omega),d6.out];rfl
  ·rw[Je (by omega),Je (by omega),Je (by omega),Je (by omega),Je (by omega),Je (by omega),Je (by omega),Je (by omega)]
  ·unfold bkC
   rw[zaf _ _ _ hi,qf _ _ _ _ hi]
 have b0:=hI ((O.below d).putBk K a9 (by rw[d4.out];refine zu ?_ (Jp g9 (Jp j4 g4));rw[Nat.zero_add,List.nil_append] at S;exact S) (λi hi m0 b h1 h2=>by have a1:=((O.bk.legs i hi).lt b h1).2;have a2:=(S.lt b h2).1;omega))
 have b1:Hid (zF ((((((((s.setCell (gb,m*13+3) (av,y.lgn,cv)).setCell (gb,m*13+4) y.pe).setCell (gb,m*13+4+1) y.len).setCell (gb,m*13+4+2) y.hei).setCell (gb,m*13+4+3) y.cl).setCell (gb,m*13+4+4) y.all).setCell (gb,m*13+4+5) y.be).setCell (gb,m*13+12) pr) base (Z,N,a4) (U,N,a3) (some (gb,0),R,H) N N R { x with bk:=zah x.bk m (qx (x.bk m) l y) } L C A B D (atV (atV E m (E m)) m (av,y.lgn,cv))):=by have h:=b0;rw[setB_setB] at h;exact h
 have d7:=K.blk (zb qQ d) g0;have a0:=K.blk (zb e5 d) (by show _;omega)
 have d8:=K.blk (zb d9 d) (by show _;omega)
 have d1:=(d2.trans (zx.of_below d)).trans (K.mono (λb e=>.inr (by rw[show _ from e];rfl)))
 generalize ((((((((s.setCell _ _).setCell _ _).setCell _ _).setCell _ _).setCell _ _).setCell _ _).setCell _ _).setCell _ _)=Z1 at b1 d7 a0 d8 d1 K a9 b0 ⊢;have i4:=b1;clear K a9 b0 b1;clear k3 f3;clear k4 f4;clear k5 f5;clear k6 f6;clear k7 f7;clear k8 f8;clear k9 f9;clear j7 j0;clear k2 l0 l1 l2 l3 l4 l5 b7 S f0 I t d;have e7:w.heap.size+1≠tb:=by omega
 obtain⟨i3,j1,h6,b3,i7⟩:=zgr d1 i4 d7 d8 a0 e7 (by omega) (pr) rfl
 obtain⟨d5,e6,d0,bF⟩:=zbC h6 i3 j1 b3 (by omega) () (int i64 ((m:Int)+1)) (pr) True rfl
 obtain⟨t0,t1,t2,t3⟩:=ce4 i7;have s2:=za a0 2 _ rfl;have s3:=zg a0 2;obtain⟨v0,v1,v2,v3⟩:=ce4 b3;obtain⟨e0,e1,e2,e3⟩:=fe4 b3;have a6:=hI d5;have c0:=hI e6;have b9:=hI d0;clear d5 e6 d0;go_wp2;obtain⟨x0,x1,x2,x3⟩:=ce4 bF;refine Jj (v:=.agg #[(),int i64 ((m:Int)+1),(pr),True]) (by simp[results,results93,go_sem,x0,x1,x2,x3]) rfl ?_
 have n:=i6;subst n;rw[d6.out] at a6 c0 b9 ⊢;exact⟨_,_,_,_,rfl,rfl,a6,c0,b9⟩
theorem zjf (x y:Int)(w:World) :
  Calls prog 171 #[x,y] w λe w'=>e=.returned (Z6 x y)/\w'=w:=by
 obtain⟨V,d⟩:∃ V,V=Z6 x y:=⟨_,rfl⟩;rw[← d];have b:=hI d;clear d
 by_cases h1:In x 0 1000000
 ·have f:=Jd h1
  by_cases h2:In y (-10000) 10000
  ·have g:=Jd h2
   have k:=h1.1;have l:=h1.2;have c:Hid (_/\_):=⟨h1,h2⟩;clear h1 h2
   by_cases h3:100<=y
   ·have i:=Jd h3
    have a:Hid (V=x):=by show V=x;rw[b.out];unfold Z6;rw[Jf c.out,Jf h3]
    rw[a.out];clear h3;go_enter func171,ntmps171;go_wp2_with (first|(go_at_call 148;refine sC (zt _ _ _ _) ?_))
    go_ret;exact⟨rfl,rfl⟩
   ·have i:=Jc h3
    by_cases h4:20<=y
    ·have j:=Jd h4
     have a:Hid (V=x / 2):=by show V=_;rw[b.out];unfold Z6;rw[Jf c.out,Je h3,Jf h4]
     have hq:Int.tdiv x 2=x / 2:=by rw[Int.tdiv_eq_ediv_of_nonneg k]
     have m:IntKind.i64.wrap (x / 2)=x / 2:=by rw[Jk];omega
     rw[a.out];clear h3 h4;go_enter func171,ntmps171;go_wp2_with (first|(go_at_call 148;refine sC (zt _ _ _ _) ?_))
     go_ret;exact⟨rfl,rfl⟩
    ·have j:=Jc h4
     have a:Hid (V=0):=by show V=0;rw[b.out];unfold Z6;rw[Jf c.out,Je h3,Je h4]
     rw[a.out];clear h3 h4;go_enter func171,ntmps171;go_wp2_with (first|(go_at_call 148;refine sC (zt _ _ _ _) ?_))
     go_ret;exact⟨rfl,rfl⟩
  ·have g:=Jc h2
   have a:Hid (V=0):=by rw[b.out];exact Je (λh=>h2 h.2)
   rw[a.out];clear h1 h2;go_enter func171,ntmps171;go_wp2_with (first|(go_at_call 148;refine sC (zt _ _ _ _) ?_))
   go_ret;exact⟨rfl,rfl⟩
 ·have f:=Jc h1
  have a:Hid (V=0):=by rw[b.out];exact Je (λh=>h1 h.1)
  rw[a.out];clear h1;go_enter func171,ntmps171;go_wp2_with (first|(go_at_call 148;refine sC (zt _ _ _ _) ?_))
  go_ret;exact⟨rfl,rfl⟩
end Go.Proofs.YtmdnjgihooflfaaGreatDoor
