/-
  OWN TEXT: KitRs, CloneI, KitRes, CopyB, KitZ, KitBs, KitOwn.
-/
import Derived.Test.YtmdnjgihooflfaaGreatDoorRows
import Derived.Deep.LoopGhost
import Derived.Lib.SliceRun
import Derived.Laws.CopyOwn
import Derived.Laws.Tables
import Derived.Deep.DeepCutAuto
import Derived.Deep.RegionHeld3
import Derived.Great.Walk
import Derived.Test.YtmdnjgihooflfaaGreatDoorB07
namespace Go.Proofs.YtmdnjgihooflfaaGreatDoor
open Go.RowKit
open Go.Value (int)
open Go.IntKind (i64)
open Tryz
set_option maxHeartbeats 64000000
set_option maxRecDepth 100000
section
open Go.RowKit
variable{t i base e sz g c N:Nat}{w:World}{v:Value}
def setC (C:Nat->List Value)(t f:Nat)(v:Value)(i:Nat):List Value:=if i=t then (C t).set f v else C i
theorem Zb (C:Nat->List Value)(t f:Nat)(v:Value):setC C t f v t=(C t).set f v:=Jf rfl
theorem ziy (C:Nat->List Value)(f:Nat)(v:Value)(h:i≠t):setC C t f v i=C i:=Je h
theorem Zr {C:Nat->List Value}(h:w.ownsRow base e sz (some (g,0),N,c) N ((List.range (N*sz)).map (zZ sz C)))(t f:Nat)(v:Value)(hl:(C t).length=sz)(b:f<sz) :
  (w.setCell (g,t*sz+f) v).ownsRow base e sz (some (g,0),N,c) N ((List.range (N*sz)).map (zZ sz (setC C t f v))):=by
 have h0:0<sz:=by omega
 refine qR (zL h _ v) (λj _=>?_)
 by_cases e:j=t*sz+f
 ·subst e
  rw[Jf rfl,zC sz _ t f b,Zb,List.getD_eq_getElem?_getD,List.getElem?_set_self (by omega)]
  rfl
 ·rw[Je e]
  unfold zZ
  by_cases e2:j / sz=t
  ·have a:j % sz≠f:=λa=>e (by have:=Nat.div_add_mod j sz;rw[e2,a,Nat.mul_comm] at this;omega)
   rw[e2,Zb,List.getD_eq_getElem?_getD,List.getD_eq_getElem?_getD,List.getElem?_set_ne (λh=>a h.symm)]
  ·rw[ziy _ _ _ e2]
theorem zbs {n:Nat}{C a:Nat->List Value}(h:w.ownsRow base e sz v n ((List.range (N*sz)).map (zZ sz C)))(b:0<sz)(c:∀ i,i<N->C i=a i):w.ownsRow base e sz v n ((List.range (N*sz)).map (zZ sz a)) :=
 qR h (λj d=>by unfold zZ;rw[c _ ((Nat.div_lt_iff_lt_mul b).2 d)])
theorem zU {C:Nat->List Value}(h:w.ownsRow base e sz (some (g,0),N,c) N ((List.range (N*sz)).map (zZ sz C))){f:Nat}(d:t<N)(b:f<sz):w.cell? (g,t*sz+f)=some ((C t).getD f (.bool false)):=by
 have a:t*sz+f<N*sz:=by
  have h1:(t+1)*sz<=_:=Nat.mul_le_mul_right sz d;have h2:(t+1)*sz=_:=Nat.succ_mul t sz
  omega
 rw[zs h _ a rfl,zC sz C t f b]
end
theorem zlG {w:World}{c:Option Addr}{n:Nat}{F:Nat->Int}(h:zT w c n F):∀ a,c=some a->∀ j u,(zS F n)[j]?=some u->w.cell? (a.add j)=some u:=by
 intro a e j u i;obtain⟨g,rfl⟩:=zcD _ _ _ _ i;obtain⟨b,off,d,f⟩:=h j g;rw[e] at d
 cases d
 rw[Addr.add_lit];exact f
theorem zgp (l:Addr)(n c:Nat)(F:Nat->Int)(w:World)(hn:n<=1048576)(r:zT w (some l) n F) :
  Calls prog 212 #[(some l,n,c)] w λe w'=>(∃ v,e=.returned v/\w'.ownsRow w.heap.size 3 1 v n (zS F n))/\Below w.heap.size w w':=by
 obtain⟨s,t,g,i,k⟩:=info_parts Tryz.infoInt;have b:Below _ w (w.alloc (.cells #[] 3)):=zk bZ _;have m:(w.alloc _).ownsRow _ 3 1 _ 0 []:=⟨rfl,.inr ⟨_,0,#[],rfl,Jr _,Jb w _,Jr _,Jq _,rfl,rfl⟩⟩;have p:=hI (zlG (r.below b));have qT:∀ (w) (a) (n c o c'),(binOp _ 27 (.slice a n c) _).run _ w=_:=λw a n c o c'=>Lib.run_eql_slice_nil w _ _ a n c o c' underlying27
 go_enter func212,ntmps212;go_wp2_with (first|(at_builtin;refine zv _ rfl _ _ 27 rfl _ 3 s _ 1 8 underlying27 t g i k rfl (by decide) _ 0 [] (by rfl) m _ n c _ rfl (λh=>(by cases h)) (by rw[Zn,Nat.mul_one]) p (Qd _ _) (by unfold maxLen;omega) (by omega) (by simp) ?_;intro v' w3 d f))
 go_ret;rw[Nat.zero_add,List.nil_append] at d;exact⟨⟨_,rfl,d⟩,b.grown f (by simp) (λj q=>(m.lt j q).1)⟩
theorem Qq {P:Program}{b:Func}{tmps:Array Value}{w:World}{r:Nat}{t:TypeId}{a:Addr}{v:Value}(d:b.results=#[.cell r t])(f:tmps.getD r undef=.pointer (some a))(e:(loadVar t a).run P w=.ok v w) :
  (results b tmps).run P w=.ok v w:=by
 have c:(asAddr (.pointer (some a))).run P w=.ok a w:=by simp[asAddr,go_sem]
 unfold results;rw[d];simp only[List.mapM_toArray,List.mapM_cons,List.mapM_nil,Sem.run_bind,f];simp[↓c,↓e]
section
open Go.RowKit
variable{w w':World}{base g N e c t:Nat}{L:Nat->Value}
theorem Tryz.sizeBk:(Tryz.prog.info? 150).map (·.size)=some 13:=by kernel_rfl
theorem zgq (y:ql)(j:Addr)(o:Nat)(w:World)(M:y.lgn<=1048576)(N:zT w (some j) y.lgn y.lg) :
  Calls prog 117 #[.agg #[int i64 y.name,int i64 y.who,.string y.own,.slice (some j) y.lgn o,int i64 y.pe,int i64 y.len,int i64 y.hei,int i64 y.cl,.bool y.all,int i64 y.be,int i64 y.state,int i64 y.unt,int i64 y.price]] w λe w'=>(∃ c c3,e=.returned (.agg #[int i64 y.name,int i64 y.who,.string y.own,.slice c y.lgn c3,int i64 y.pe,int i64 y.len,int i64 y.hei,int i64 y.cl,.bool y.all,int i64 y.be,int i64 y.state,int i64 y.unt,int i64 y.price])/\w'.ownsRow w.heap.size 3 1 (.slice c y.lgn c3) y.lgn (zS y.lg y.lgn))/\Below w.heap.size w w':=by
 have f:Below _ w ((w.alloc (.cells (y,some j,o) 150)).alloc (.cells #[(),(),False,True,(),(),(),(),.bool false,(),(),(),()] 150)):=zk (zk bZ _) _;have x:=zoQ f;have A:=by
  have h:=Jb (w.alloc (.cells (y,some j,o) 150)) (.cells #[(),(),False,True,(),(),(),(),.bool false,(),(),(),()] 150);rw[show(w.alloc (.cells (y,some j,o) 150)).heap.size=w.heap.size+1 by simp] at h
  exact h
 have G:((w.alloc (.cells (y,some j,o) 150)).alloc (.cells #[(),(),False,True,(),(),(),(),.bool false,(),(),(),()] 150)).heap.size=w.heap.size+2:=by simp
 have I:=za x 3 _ rfl;go_enter func117,ntmps117;go_upto_region 1 with fail;generalize (w.alloc _).alloc _=V at f x A G I ⊢;go_wp2_with fail;refine(zgp j _ o _ V M (N.below f)).mono ?_;rintro e n ⟨⟨v,rfl,z⟩,i⟩;obtain⟨c,c3,rfl,_⟩:=zp z;have d:=zb x i;have q:=zb A i;have O:=za d 3 _ rfl;have f3:=zg d 3;have H:zx n (n.setCell _ (c,y.lgn,c3)) _:=(zx.refl n (λb=>b=w.heap.size)).set (a:=(w.heap.size,3)) rfl _
 have r:(n.setCell (w.heap.size,3) (c,y.lgn,c3)).heap[w.heap.size]?=some (.cells (y,c,c3) 150 (0,0)):=by simpa using zm d 3 _
 have l:(n.setCell ⟨w.heap.size,3,_⟩ (c,y.lgn,c3)).heap[w.heap.size+1]?=_:=zD q 3 _ (by omega)
 have m:=H.own z (λg B s=>by have s:=s;have:=(World.ownsRow.lt z g B).1;omega)
 have u:Below _ w (n.setCell _ (c,y.lgn,c3)):=(ze f i).setCell (p:=(w.heap.size,3)) (Jr _) _;clear I x A i d q;go_upto_region 2 with fail;generalize n.setCell _ _=W at r l m u ⊢;clear O f3 H z;refine wp_region_lit ?_;refine wpList_load_row rfl _ _ rfl _ rfl _ _ _ _ r underlying150 rfl Tryz.sizeBk ?_;refine wpList_store_row rfl _ _ _ rfl _ _ rfl rfl _ _ l Tryz.sizeBk rfl (by simp[Value.oneCell']) ?_
 obtain⟨F,t⟩:∃ F,F=W.setRow (w.heap.size+1) (y,c,c3):=⟨_,rfl⟩;have K:F.heap[w.heap.size+1]?=some (.cells (y,c,c3) 150 (0,0)):=by rw[t];exact setRow_heap _ _ _ _ _ _ l
 have J:Below w.heap.size w F:=by rw[t];exact below_setRow u (by omega) _
 have E:=by
  have C:zx W F (λb=>b=w.heap.size+1):=by rw[t];exact⟨rfl,rfl,rfl,(below_setRow (Ji 0 W) (Jq _) _).size,λk _ D=>setRow_other _ _ _ _ D⟩
  exact C.own m (λg B s=>by have s:=s;have:=(World.ownsRow.lt m g B).1;omega)
 rw[← t];clear t;have L:=run_loadVar_row F _ 150 150 _ _ _ K underlying150 rfl Tryz.sizeBk;go_wp2;exact Jj (Qq results117 rfl L) rfl ⟨⟨c,c3,rfl,zu E (by omega)⟩,J⟩
theorem list13 {l:List Value}(h:l.length=13):∃ u0 u1 u2 u3 u4 u5 u6 u7 u8 u9 u10 u11 u12,l=[u0,u1,u2,u3,u4,u5,u6,u7,u8,u9,u10,u11,u12]:=by
 refine⟨l[0],l[1],l[2],l[3],l[4],l[5],l[6],l[7],l[8],l[9],l[10],l[11],l[12],?_⟩
 apply List.ext_getElem
 ·simpa using h
 ·intro i h1 h2
  have h3:i<13:=by omega
  have a:i=0∨i=1∨i=2∨i=3∨i=4∨i=5∨i=6∨i=7∨i=8∨i=9∨i=10∨i=11∨i=12:=by omega
  rcases a with rfl|rfl|rfl|rfl|rfl|rfl|rfl|rfl|rfl|rfl|rfl|rfl|rfl <;> rfl
structure zlH (w:World)(base g k N:Nat)(S:Nat->ql)(L:Nat->Value):Prop where
 row:w.ownsRow base 150 13 (some (g,0),N,N) N ((List.range (N*13)).map (zZ 13 (zbJ k (bkC S L) [(),(),False,True,(),(),(),(),.bool false,(),(),(),()])))
 legs:∀ i,i<k->w.ownsRow base 3 1 (L i) (S i).lgn (zS (S i).lg (S i).lgn)
 apart:∀ i j,i<j->j<k->∀ b,(L i).ownBlock=some b->(L j).ownBlock≠some b
theorem zlH.below {k:Nat}{S:Nat->ql}(h:zlH w base g k N S L)(a:Below w.heap.size w w'):zlH w' base g k N S L:=⟨zo a h.row,λi b=>zo a (h.legs i b),h.apart⟩
theorem zlH.own {S:Nat->ql}(h:zlH w base g N N S L):ZC w base (some (g,0),N,N) N S L :=
 ⟨zbs h.row (by decide) (λi a=>qr _ _ a),h.legs,h.apart⟩
def ziz (w:World)(g t:Nat)(v0 v1 v2 v3 v4 v5 v6 v7 d e a b c:Value):World :=
 (((((((((((((w.setCell (g,t*13) v0).setCell (g,t*13+1) v1).setCell (g,t*13+2) v2).setCell (g,t*13+3) v3).setCell (g,t*13+4) v4).setCell (g,t*13+5) v5).setCell (g,t*13+6) v6).setCell (g,t*13+7) v7).setCell (g,t*13+8) d).setCell (g,t*13+9) e).setCell (g,t*13+10) a).setCell (g,t*13+11) b).setCell (g,t*13+12) c)
theorem zfb (w:World)(g t:Nat)(v0 v1 v2 v3 v4 v5 v6 v7 f h c d e:Value):zx w (ziz w g t v0 v1 v2 v3 v4 v5 v6 v7 f h c d e) (λb=>b=g) :=
 (((((((((((((zx.refl w (λb=>b=g)).set (a:=(g,t*13)) rfl v0).set (a:=(g,t*13+1)) rfl v1).set (a:=(g,t*13+2)) rfl v2).set (a:=(g,t*13+3)) rfl v3).set (a:=(g,t*13+4)) rfl v4).set (a:=(g,t*13+5)) rfl v5).set (a:=(g,t*13+6)) rfl v6).set (a:=(g,t*13+7)) rfl v7).set (a:=(g,t*13+8)) rfl f).set (a:=(g,t*13+9)) rfl h).set (a:=(g,t*13+10)) rfl c).set (a:=(g,t*13+11)) rfl d).set (a:=(g,t*13+12)) rfl e
theorem zjV {C:Nat->List Value}(v0 v1 v2 v3 v4 v5 v6 v7 m n b d f:Value)(h:w.ownsRow base e 13 (some (g,0),N,c) N ((List.range (N*13)).map (zZ 13 C)))(a:(C t).length=13) :
  (ziz w g t v0 v1 v2 v3 v4 v5 v6 v7 m n b d f).ownsRow base e 13 (some (g,0),N,c) N ((List.range (N*13)).map (zZ 13 (λi=>if i=t then [v0,v1,v2,v3,v4,v5,v6,v7,m,n,b,d,f] else C i))):=by
 have o:=Zr h t 0 v0 a (by decide)
 rw[Nat.add_zero] at o;have h1:=Zr o t 1 v1 (by simp only[Zb,List.length_set];exact a) (by decide)
 have h2:=Zr h1 t 2 v2 (by simp only[Zb,List.length_set];exact a) (by decide)
 have h3:=Zr h2 t 3 v3 (by simp only[Zb,List.length_set];exact a) (by decide)
 have p:=Zr h3 t 4 v4 (by simp only[Zb,List.length_set];exact a) (by decide)
 have q:=Zr p t 5 v5 (by simp only[Zb,List.length_set];exact a) (by decide)
 have r:=Zr q t 6 v6 (by simp only[Zb,List.length_set];exact a) (by decide)
 have s:=Zr r t 7 v7 (by simp only[Zb,List.length_set];exact a) (by decide)
 have h8:=Zr s t 8 m (by simp only[Zb,List.length_set];exact a) (by decide)
 have h9:=Zr h8 t 9 n (by simp only[Zb,List.length_set];exact a) (by decide)
 have j:=Zr h9 t 10 b (by simp only[Zb,List.length_set];exact a) (by decide)
 have k:=Zr j t 11 d (by simp only[Zb,List.length_set];exact a) (by decide)
 have l:=Zr k t 12 f (by simp only[Zb,List.length_set];exact a) (by decide)
 refine zbs l (by decide) (λi hi=>?_)
 by_cases e:i=t
 ·subst e
  rw[Jf rfl];simp only[Zb];obtain⟨u0,u1,u2,u3,u4,u5,u6,u7,u8,u9,u10,u11,u12,u⟩:=list13 a;rw[u]
  rfl
 ·rw[Je e]
  simp only[ziy _ _ _ e]
theorem ziA (ao:Option Addr)(N c:Nat)(S:Nat->ql)(w:World)(hN:N<=1048576)(hs:∀ i,i<N->0<(S i).lgn/\(S i).lgn<=1048576)(hz:qO w ao N S) :
  Calls prog 116 #[.slice ao N c,.func (.func 117) #[] #[]] w λe w'=>(∃ g L,e=.returned (.slice (some ⟨g,0,none⟩) N N)/\ZC w' w.heap.size (.slice (some ⟨g,0,none⟩) N N) N S L)/\Below w.heap.size w w':=by
 obtain⟨i0,P,a0,a1,a2⟩:=info_parts Tryz.infoBooking;have HS:=hI hs;have HX:=hI hz;clear hs hz;go_enter func116,ntmps116;go_wp2_with (first|(at_make;refine wpList_make_full _ rfl _ _ 36 rfl _ 150 i0 _ 13 underlying36 P a0 a1 _ _ _ _ N rfl rfl rfl rfl (by rw[a2];omega) (by unfold maxLen;omega) (Jr _) ?_;intro w1 s r))
 go_loopw [6,7,13] (λ_ _ i wr=>∃ (k:Nat) (L:_),k<=N/\i=int i64 k/\zlH wr w.heap.size w.heap.size k N S L/\Below w.heap.size w wr) (λ_ _ i _=>N - (intOf i).toNat)
 case atStart=>exact⟨0,λ_=>.slice none 0 0,Jq _,rfl,⟨Zz ((ZP s).congr (λj hj=>(zes (z:=#[_,_,_,_,_,_,_,_,_,_,_,_,_]) (sz:=13) rfl N j hj).trans (by unfold zZ;rw[zbT _ _ (by omega)]))) (Jr _) (by unfold maxLen;omega),λi P=>by omega,λi j _ hj=>by omega⟩,bZ.grown r (Jr _) (by simp)⟩
 case round =>
  obtain⟨k,L,hk,rfl,x,f⟩:=hrel;clear s r
  by_cases hlt:k<N
  ·obtain⟨E,hE,hI⟩:=HX
   obtain⟨b,off,rfl,n⟩:=hE k hlt;obtain⟨U,M,q,D,a6⟩:=hI k hlt;obtain⟨a4,a5⟩:=HS k hlt;obtain⟨b2,o2,ea,_⟩:=D 0 a4;obtain⟨H,rfl⟩:∃ H,U=_:=⟨_,ea⟩;clear ea;have l:b<w.heap.size:=Ja w _ (n 0 (by decide))
   have i1:(k:Int)<(N:Int):=by omega
   have F:=hI D;have c0:wr.cell? _=some (.int _ _):=(f.cell (p:=⟨b,off+_,_⟩) l).trans (by have:=n 0 (by decide);rw[q] at this;exact this)
   have c1:wr.cell? _=some (.int _ _):=(f.cell l).trans (by have:=n 1 (by decide);rw[q] at this;exact this)
   have c2:wr.cell? _=some (.string _):=(f.cell l).trans (by have:=n 2 (by decide);rw[q] at this;exact this)
   have c3:wr.cell? _=some (.slice _ _ M):=(f.cell l).trans (by have:=n 3 (by decide);rw[q] at this;exact this)
   have c4:wr.cell? _=some (.int _ _):=(f.cell l).trans (by have:=n 4 (by decide);rw[q] at this;exact this)
   have c5:wr.cell? _=some (.int _ _):=(f.cell l).trans (by have:=n 5 (by decide);rw[q] at this;exact this)
   have c6:wr.cell? _=some (.int _ _):=(f.cell l).trans (by have:=n 6 (by decide);rw[q] at this;exact this)
   have c7:wr.cell? _=some (.int _ _):=(f.cell l).trans (by have:=n 7 (by decide);rw[q] at this;exact this)
   have c8:wr.cell? _=some (.bool _):=(f.cell l).trans (by have:=n 8 (by decide);rw[q] at this;exact this)
   have c9:wr.cell? _=some (.int _ _):=(f.cell l).trans (by have:=n 9 (by decide);rw[q] at this;exact this)
   have V:wr.cell? _=some (.int _ _):=(f.cell l).trans (by have:=n 10 (by decide);rw[q] at this;exact this)
   have X:wr.cell? _=some (.int _ _):=(f.cell l).trans (by have:=n 11 (by decide);rw[q] at this;exact this)
   have Y:wr.cell? _=some (.int _ _):=(f.cell l).trans (by have:=n 12 (by decide);rw[q] at this;exact this)
   have m:=zk f (.cells (S k,some H,M) 150);have u:=x.below (zk (Ji _ wr) (.cells (S k,some H,M) 150));have B:=Jb wr (.cells (S k,some H,M) 150);clear hE hI n q D a6 x;go_wp2_with fail;generalize wr.alloc _=W at m u B ⊢;clear c0 c1 c2 c3 c4 c5 c6 c7 c8 c9 V X Y B;refine(zgq _ H M W a5 (F.below m)).mono ?_;rintro e o ⟨⟨O,c3,rfl,Q⟩,y⟩;have d:=u.below y;have A:=zfb o w.heap.size k (S k).name (S k).who (S k).own (O,(S k).lgn,c3) (S k).pe (S k).len (S k).hei (S k).cl (S k).all (S k).be (S k).state (S k).unt (S k).price;have G:Hid _:=zjV (t:=k) (S k).name (S k).who (S k).own (O,(S k).lgn,c3) (S k).pe (S k).len (S k).hei (S k).cl (S k).all (S k).be (S k).state (S k).unt (S k).price d.row (by rw[zbT _ _ (by omega)];rfl)
   have I:=zx.below (ze m y) (ze m y).size A (λb e=>by have e:=e;omega)
   have T:Hid (zlH (ziz o w.heap.size k (S k).name (S k).who (S k).own (O,(S k).lgn,c3) (S k).pe (S k).len (S k).hei (S k).cl (S k).all (S k).be (S k).state (S k).unt (S k).price) w.heap.size w.heap.size (k+1) N S (atV L k (O,(S k).lgn,c3))):=by
    refine⟨zbs G (by decide) (λi P=>?_),λi P=>?_,λi j J hj=>?_⟩
    ·by_cases e:i=k
     ·subst e;rw[Jf rfl,qr _ _ (by omega)];unfold bkC;rw[qu]
     ·rw[Je e]
      by_cases h:i<k
      ·rw[qr _ _ h,qr _ _ (by omega)];unfold bkC;rw[qf _ _ _ _ e]
      ·rw[zbT _ _ h,zbT _ _ (by omega)]
    ·by_cases e:i=k
     ·subst e;rw[qu];exact A.own (zu Q m.size) (λg Z e2=>zI d.row (zu Q m.size) (by decide) g (by rw[show _ from e2];rfl) Z)
     ·rw[qf _ _ _ _ e];exact A.own (d.legs i (by omega)) (λg Z e2=>zI d.row (d.legs i (by omega)) (by decide) g (by rw[show _ from e2];rfl) Z)
    ·by_cases e:j=k
     ·subst e
      rw[qu,qf _ _ _ _ (by omega)]
      intro b h1 h3;have a:=((u.legs i J).lt b h1).2;have c:=(World.ownsRow.lt Q b h3).1
      omega
     ·rw[qf _ _ _ _ e,qf _ _ _ _ (by omega)]
      exact u.apart i j J (by omega)
   have R:=hI I;obtain⟨u0,o0⟩:∃ v,o.cell? ⟨_,_+0,_⟩=some v:=⟨_,zU d.row hlt (by decide)⟩
   have f0:=d.row.frozenAt (k*13);obtain⟨u1,o1⟩:∃ v,o.cell? ⟨_,_+1,_⟩=some v:=⟨_,zU d.row hlt (by decide)⟩
   have f1:=d.row.frozenAt (k*13+1);obtain⟨u2,o2⟩:∃ v,o.cell? ⟨_,_+2,_⟩=some v:=⟨_,zU d.row hlt (by decide)⟩
   have f2:=d.row.frozenAt (k*13+2);obtain⟨u3,o3⟩:∃ v,o.cell? ⟨_,_+3,_⟩=some v:=⟨_,zU d.row hlt (by decide)⟩
   have f3:=d.row.frozenAt (k*13+3);obtain⟨u4,o4⟩:∃ v,o.cell? ⟨_,_+4,_⟩=some v:=⟨_,zU d.row hlt (by decide)⟩
   have f4:=d.row.frozenAt (k*13+4);obtain⟨u5,o5⟩:∃ v,o.cell? ⟨_,_+5,_⟩=some v:=⟨_,zU d.row hlt (by decide)⟩
   have f5:=d.row.frozenAt (k*13+5);obtain⟨u6,o6⟩:∃ v,o.cell? ⟨_,_+6,_⟩=some v:=⟨_,zU d.row hlt (by decide)⟩
   have f6:=d.row.frozenAt (k*13+6);obtain⟨u7,o7⟩:∃ v,o.cell? ⟨_,_+7,_⟩=some v:=⟨_,zU d.row hlt (by decide)⟩
   have f7:=d.row.frozenAt (k*13+7);obtain⟨u8,o8⟩:∃ v,o.cell? ⟨_,_+8,_⟩=some v:=⟨_,zU d.row hlt (by decide)⟩
   have f8:=d.row.frozenAt (k*13+8);obtain⟨u9,o9⟩:∃ v,o.cell? ⟨_,_+9,_⟩=some v:=⟨_,zU d.row hlt (by decide)⟩
   have f9:=d.row.frozenAt (k*13+9);obtain⟨u10,b0⟩:∃ v,o.cell? ⟨_,_+10,_⟩=some v:=⟨_,zU d.row hlt (by decide)⟩
   have a7:=d.row.frozenAt (k*13+10);obtain⟨u11,b1⟩:∃ v,o.cell? ⟨_,_+11,_⟩=some v:=⟨_,zU d.row hlt (by decide)⟩
   have a8:=d.row.frozenAt (k*13+11);obtain⟨u12,b3⟩:∃ v,o.cell? ⟨_,_+12,_⟩=some v:=⟨_,zU d.row hlt (by decide)⟩
   have a9:=d.row.frozenAt (k*13+12);rw[Nat.add_zero] at o0;clear u d Q m y A G I f F;go_wp2;go_roundw
   case rel =>
    have K:=T;have C:=R;unfold ziz at K C;exact⟨_,_,by omega,by go_num,K,C⟩
   case measure=>simp[intOf];omega
  ·obtain rfl:k=N:=by omega
   have HO:=hI x.own;go_wp2;go_ret;exact⟨⟨_,L,rfl,HO⟩,f⟩
end
section
open Go.RowKit
section
variable {P : Program} {ops : Array Oper} {Q : Exit -> Act -> World -> Prop} {md : Region.Mode} {S : World -> Prop} {z : Nat}
def QM (P:Program)(c:Region.Mode)(b:Array Oper)(Q:Exit->Act->World->Prop)(S:World->Prop)(z:Nat):Nat->Array Bool->Act->World->Prop
 | 0,listed,a,w=>Region.ready c b listed=[]/\Q .normal a w
 | fuel+1,listed,a,w =>
  (Region.ready c b listed=[]->Q .normal a w) /\
  ∀ i ∈ Region.ready c b listed,wpOp P b Q i (λd w'=>(i≠z->S w')/\QM P c b Q S z fuel (listed.setIfInBounds i true) d w') a w
theorem zhR:∀ (fuel:Nat)(b:Array Bool)(a:Act)(w:World),QM P md ops Q S z fuel b a w->wpAny P md ops Q fuel b a w
 | 0,_,_,_,h=>h
 | fuel+1,_,_,_,h=>⟨h.1,λi e=>wpOp_mono (λc w' d=>zhR fuel _ c w' d.2) (h.2 i e)⟩
def zfc (b:Region.Mode)(a:Array Oper)(z:Nat):Bool :=
 (List.range a.size).all λj=>j == z || (List.range a.size).any λs=>decide (j<s) && ((a[s]?).map λo=>o.after.any λe=>Region.binds b e && e.on == j).getD false
def zoJ (c:Region.Mode)(b:Array Oper)(a:Array Bool):Bool :=
 (List.range b.size).all λs=>!a.getD s false || ((b[s]?).map λo=>o.after.all λe=>!Region.binds c e || a.getD e.on false).getD true
def ShutL (c:Region.Mode)(b:Array Oper)(a:Array Bool):Prop :=
 ∀ s o,b[s]?=some o->a.getD s false=true->∀ e ∈ o.after,Region.binds c e=true->a.getD e.on false=true
theorem shut_of {a:Array Bool}(h:zoJ md ops a=true):ShutL md ops a:=λs o c g e f d=>by
 unfold zoJ at h;rw[List.all_eq_true] at h;have b:=(Array.getElem?_eq_some_iff.1 c).1;have h1:=h s (List.mem_range.2 b);rw[g,c] at h1;simp only[Bool.not_true,Bool.false_or,Option.map_some,Option.getD_some,Array.all_eq_true_iff_forall_mem] at h1;have h2:=h1 e f;rw[d] at h2
 simpa using h2
theorem shut_set {a:Array Bool}{i:Nat}(h:ShutL md ops a)(l:i ∈ Region.ready md ops a):ShutL md ops (a.setIfInBounds i true):=λs o k j e g f=>by
 by_cases c:i=s
 ·subst c
  obtain⟨_,o',d,b⟩:=mem_ready.1 l;rw[k] at d
  cases d
  exact getD_set_true (b e g f)
 ·rw[getD_set_ne _ c] at j
  exact getD_set_true (h s o k j e g f)
theorem znh {a:Array Bool}(h:zfc md ops z=true)(hz:z+1=ops.size)(q:ShutL md ops a)(hr:z ∈ Region.ready md ops a):∀ m j,j+m=z->j≠z->a.getD j false=true:=by
 intro m
 induction m using Nat.strongRecOn with
 | ind m ih =>
  intro j n l;unfold zfc at h;rw[List.all_eq_true] at h;have h1:=h j (List.mem_range.2 (by omega))
  rw[Bool.or_eq_true] at h1
  rcases h1 with h1|h1
  ·exact absurd (by simpa using h1) l
  ·rw[List.any_eq_true] at h1
   obtain⟨s,g,h2⟩:=h1;rw[Bool.and_eq_true] at h2;have p:=by simpa using h2.1
   have r:=List.mem_range.1 g
   cases ho:ops[s]? with
   | none=>rw[ho] at h2;simp at h2
   | some o =>
    rw[ho] at h2;simp only[Option.map_some,Option.getD_some,Array.any_eq_true',Bool.and_eq_true] at h2;obtain⟨_,e,k,i,b⟩:=h2;have b:=by simpa using b
    by_cases c:s=z
    ·subst c
     obtain⟨_,o',f,d⟩:=mem_ready.1 hr;rw[ho] at f
     cases f
     rw[← b];exact d e k i
    ·have:=ih (z - s) (by omega) s (by omega) c
     rw[← b];exact q s o ho this e k i
theorem zjW {i:Nat}{s:Oper}{v:Value}(C:ops[i]?=some s)(F:i≠z)(T:zfc md ops z=true)(U:z+1=ops.size)(m:∀ (j:Nat)(o:Oper) cs b,ops[j]?=some o->o.op≠.select cs b)
  (L:∀ c a w,Q (.panic c) (a.put s.dst v) w->Q (.panic c) a w) :
  ∀ (fuel:Nat) (d:Array Bool) (a:Act) (w:World),ShutL md ops d ->
   (∀ j q,ops[j]?=some q->j≠i->d.getD j true=false->(∀ e ∈ q.after,Region.binds md e=true->e.on≠i)->s.apart ops q=true) ->
   i ∈ Region.ready md ops d->YieldsIf P ops S s v a->S w ->
   QM P md ops Q S z fuel (d.setIfInBounds i true) (a.put s.dst v) w->QM P md ops Q S z (fuel+1) d a w:=by
 intro fuel
 induction fuel with
 | zero =>
  intro d a w _ _ hr D u H;refine⟨λh=>(by rw[h] at hr;cases hr),λj r=>?_⟩
  by_cases hji:j=i
  ·subst hji;exact D.wpOp C u ⟨λ_=>u,H⟩
  ·have:=ready_mono r hji
   rw[H.1] at this
   cases this
 | succ fuel ih =>
  intro d a w A f hr D u H;refine⟨λh=>(by rw[h] at hr;cases hr),λj r=>?_⟩
  by_cases hji:j=i
  ·subst hji;exact D.wpOp C u ⟨λ_=>u,H⟩
  ·have G:j≠z:=λe=>by
    subst e;have R:=(Array.getElem?_eq_some_iff.1 C).1;have h1:=znh T U A r (j - i) i (by omega) F
    have t:=(mem_ready.1 hr).1
    rcases Nat.lt_or_ge i d.size with n|n
    ·simp[n] at t h1;rw[t] at h1;cases h1
    ·simp[Array.getElem?_eq_none n] at h1
   have h1:=H.2 j (ready_mono r hji);obtain⟨l,q,p,x⟩:=mem_ready.1 r;have y:∀ e ∈ q.after,_->e.on≠i:=λe N M E=>by
    have h1:=x e N M;have t:=(mem_ready.1 hr).1;rw[E] at h1
    rcases Nat.lt_or_ge i d.size with n|n
    ·simp[n] at t h1;rw[t] at h1;cases h1
    ·simp[Array.getElem?_eq_none n] at h1
   have h2:=wpOp_putIf p (f j q p hji l y) (λcs b=>m i s cs b C) (λcs b=>m j q cs b p) L D h1
   have g:∀ k ok,_->_->(d.setIfInBounds j _).getD k _=false ->
     _:=λk ok O I B J=>by
    refine f k ok O I ?_ J
    by_cases hjk:j=k
    ·subst hjk;exact l
    ·rw[getD_set_ne _ hjk] at B;exact B
   refine wpOp_mono (λK w' h3=>⟨h3.2.1,ih _ K w' (shut_set A r) g (ready_mono hr (Ne.symm hji)) h3.1 (h3.2.1 G) ?_⟩) h2
   rw[Array.setIfInBounds_comm _ _ hji];exact h3.2.2
theorem zlI {i:Nat}{e:Oper}{v:Value}{fuel:Nat}{b:Array Bool}{a:Act}{w:World}(f:ops[i]?=some e)
  (l:Region.noSelect ops=true) (k:Region.free md ops b i=true) (hr:(Region.ready md ops b).contains i=true) (d:(!(i == z) && zfc md ops z && zoJ md ops b && (z+1 == ops.size))=true)
  (g:∀ c a w,Q (.panic c) (a.put e.dst v) w->Q (.panic c) a w) (m:YieldsIf P ops S e v a) (j:S w)
  (h:QM P md ops Q S z fuel (b.setIfInBounds i true) (a.put e.dst v) w):QM P md ops Q S z (fuel+1) b a w:=by
 simp only[Bool.and_eq_true,Bool.not_eq_true',beq_eq_false_iff_ne,ne_eq,beq_iff_eq] at d;exact zjW f d.1.1.1 d.1.1.2 d.2 (Region.noSelect_spec l) g _ _ a w (shut_of d.1.2) (Region.free_spec f k) (by simpa using hr) m j h
def zc (P:Program)(e:Region.Mode)(c:Array Oper)(Q:Exit->Act->World->Prop)(S:World->Prop)(z fuel:Nat)(b:Array Bool)(a:Act)(w:World)(rs:List Nat):Prop :=
 ∀ i ∈ rs,wpOp P c Q i (λd w'=>(i≠z->S w')/\QM P e c Q S z fuel (b.setIfInBounds i true) d w') a w
theorem zc.nil {fuel:Nat}{b:Array Bool}{a:Act}{w:World}:zc P md ops Q S z fuel b a w []:=λ_ h=>by cases h
theorem zc.cons {fuel:Nat}{b:Array Bool}{a:Act}{w:World}{i:Nat}{o:Oper}{rs:List Nat}(k:ops[i]?=some o)
  (h:∀ c:Act->World->Prop,Shut (∀ a w,S w->(S w->QM P md ops Q S z fuel (b.setIfInBounds i true) a w)->c a w)->if Region.wanted o (yielded ops a.tmps)=true then Oper.wp P o a w c Q else c (a.put o.dst undef) w)
  (l:zc P md ops Q S z fuel b a w rs):zc P md ops Q S z fuel b a w (i :: rs):=λj d=>by
 rcases List.mem_cons.1 d with rfl|d
 ·exact wpOp_step k (λc f=>h c (λa w e g=>f a w ⟨λ_=>e,g e⟩))
 ·exact l j d
theorem zc.last {fuel:Nat}{b:Array Bool}{a:Act}{w:World}{o:Oper}(i:ops[z]?=some o)
  (h:∀ c:Act->World->Prop,Shut (∀ a w,QM P md ops Q S z fuel (b.setIfInBounds z true) a w->c a w)->if Region.wanted o (yielded ops a.tmps)=true then Oper.wp P o a w c Q else c (a.put o.dst undef) w):zc P md ops Q S z fuel b a w [z]:=λj d=>by
 rcases List.mem_cons.1 d with rfl|d
 ·exact wpOp_step i (λc f=>h c (λa w g=>f a w ⟨λe=>absurd rfl e,g⟩))
 ·cases d
theorem zj {rs:List Nat}{fuel:Nat}{b:Array Bool}{a:Act}{w:World}(hr:Region.ready md ops b=rs)(c:rs≠[])
  (h:zc P md ops Q S z fuel b a w rs):QM P md ops Q S z (fuel+1) b a w :=
 ⟨λd=>absurd (hr ▸ d) c,hr ▸ h⟩
theorem zX {b:Array Bool}{a:Act}{w:World}(hr:Region.ready md ops b=[])(h:Q .normal a w):∀ fuel,QM P md ops Q S z fuel b a w
 | 0=>⟨hr,h⟩
 | _+1=>⟨λ_=>h,λi c=>by rw[hr] at c;cases c⟩
theorem qg {id:Nat}{a:Act}{w:World}(z n:Nat)(S:World->Prop)(d:ops.size=n)(c:P.follows .mixedOrders=true)(b:S w.drew)
  (h:S w.drew->QM P .any ops Q S z n (List.replicate n false).toArray a w.drew):(Code.region id ops true).wp P Q a w:=by
 subst d;exact wp_region_any c (zhR _ _ _ _ (by simpa using h b))
end
section
variable {P : Program} {l : List Oper} {Q : Exit -> Act -> World -> Prop} {md : Region.Mode} {S : World -> Prop} {z : Nat}
theorem zjX {i:Nat}{e:Oper}{v:Value}{fuel:Nat}{b:List Bool}{a:Act}{w:World}(j:l[i]?=some e)
  (d:(Region.noSelect l.toArray && Region.free md l.toArray b.toArray i && (Region.ready md l.toArray b.toArray).contains i && (!(i == z) && zfc md l.toArray z && zoJ md l.toArray b.toArray && (z+1 == l.toArray.size)))=true)
  (f:∀ c a w,Q (.panic c) (a.put e.dst v) w->Q (.panic c) a w) (k:YieldsIf P l.toArray S e v a) (g:S w)
  (h:QM P md l.toArray Q S z fuel (b.set i true).toArray (a.put e.dst v) w):QM P md l.toArray Q S z (fuel+1) b.toArray a w:=by
 rw[Bool.and_eq_true,Bool.and_eq_true,Bool.and_eq_true] at d;exact zlI (by simpa using j) d.1.1.1 d.1.1.2 d.1.2 d.2 f k g (by simpa using h)
theorem zc.consL {fuel:Nat}{b:List Bool}{a:Act}{w:World}{i:Nat}{o:Oper}{rs:List Nat}(g:l[i]?=some o)
  (h:∀ c:Act->World->Prop,Shut (∀ a w,S w->(S w->QM P md l.toArray Q S z fuel (b.set i true).toArray a w)->c a w)->if Region.wanted o (yielded l.toArray a.tmps)=true then Oper.wp P o a w c Q else c (a.put o.dst undef) w)
  (j:zc P md l.toArray Q S z fuel b.toArray a w rs):zc P md l.toArray Q S z fuel b.toArray a w (i :: rs) :=
 zc.cons (by simpa using g) (λc e=>h c (λa w d f=>e a w d (λd=>by simpa using f d))) j
theorem zc.lastL {fuel:Nat}{b:List Bool}{a:Act}{w:World}{o:Oper}(f:l[z]?=some o)
  (h:∀ c:Act->World->Prop,Shut (∀ a w,QM P md l.toArray Q S z fuel (b.set z true).toArray a w->c a w)->if Region.wanted o (yielded l.toArray a.tmps)=true then Oper.wp P o a w c Q else c (a.put o.dst undef) w):zc P md l.toArray Q S z fuel b.toArray a w [z] :=
 zc.last (by simpa using f) (λc d=>h c (λa w e=>d a w (by simpa using e)))
end
theorem tkL {P:Program}{l:List Oper}{Q:Exit->Act->World->Prop}{d:Region.Mode}{S:World->Prop}{z:Nat}(i:Nat){e:Oper}{v:Value}{fuel:Nat}{b:List Bool}{a:Act}{w:World}(j:l[i]?=some e)
  (k:(Region.noSelect l.toArray && Region.free d l.toArray b.toArray i && (Region.ready d l.toArray b.toArray).contains i && (!(i == z) && zfc d l.toArray z && zoJ d l.toArray b.toArray && (z+1 == l.toArray.size)))=true)
  (f:∀ c a w,Q (.panic c) (a.put e.dst v) w->Q (.panic c) a w) (m:Region.wanted e (yielded l.toArray a.tmps)=true) (g:S w) (n:∀ w,S w->(execOp a.eval e).run P w=.ok (.value v) w)
  (h:QM P d l.toArray Q S z fuel (b.set i true).toArray (a.put e.dst v) w):QM P d l.toArray Q S z (fuel+1) b.toArray a w:=zjX j k f (Or.inl ⟨m,n⟩) g h
end
theorem zdk {P:Program}{c:Array Oper}{o:Oper}{a:Act}{w:World}{K:Act->World->Prop}{Q:Exit->Act->World->Prop}{E:Prop}(g:o.guard=none)(t e:TypeId)(len:Nat)(parts:Array (Nat × Operand))(h:o.op=.buildSlice t len parts)(j:P.underlying t=some (.slice e))(cells:Array Value)
  (b:P.builtSlice e len (parts.map λ(i,x)=>(i,a.eval x)).toList=some cells) (f:K (a.put o.dst (some (w.heap.size,0),len,len)) (w.alloc (.cells cells e))) :
  if Region.wanted o (yielded c a.tmps)=true then Oper.wp P o a w K Q else E:=by
 have k:Region.wanted o (yielded c a.tmps)=true:=by simp[Region.wanted,g]
 rw[Jf k];unfold Program.builtSlice at b
 cases hie:P.info? e with
 | none=>simp[hie] at b
 | some ie =>
  simp only[hie] at b
  cases hz:ie.zero with
  | none=>simp[hz] at b
  | some z =>
   simp only[hz] at b
   by_cases hc:len*ie.size > 2 ^ 24∨len*ie.size=0
   ·simp[hc] at b
   ·rw[Je hc] at b
    exact wp_buildSlice t e len _ h _ ie z j hie hz (λd=>hc (Or.inl d)) (λd=>hc (Or.inr d)) b f
theorem zev {w:World}{g t:Nat}{u0 u1 u2 u3 u4 u5 u6 u7 u8 u9 u10 u11 u12:Value}(h:w.heap[g]?=some (.cells #[u0,u1,u2,u3,u4,u5,u6,u7,u8,u9,u10,u11,u12] t (0,0)))(v0 v1 v2 v3 v4 v5 v6 v7 d e a b c:Value) :
  (((((((((((((w.setCell (g,0) v0).setCell (g,1) v1).setCell (g,2) v2).setCell (g,3) v3).setCell (g,4) v4).setCell (g,5) v5).setCell (g,6) v6).setCell (g,7) v7).setCell (g,8) d).setCell (g,9) e).setCell (g,10) a).setCell (g,11) b).setCell (g,12) c).heap[g]?=some (.cells #[v0,v1,v2,v3,v4,v5,v6,v7,d,e,a,b,c] t (0,0)):=by
 simpa using zm (zm (zm (zm (zm (zm (zm (zm (zm (zm (zm (zm (zm h 0 v0) 1 v1) 2 v2) 3 v3) 4 v4) 5 v5) 6 v6) 7 v7) 8 d) 9 e) 10 a) 11 b) 12 c
theorem zew {W w:World}{b:Nat}(h:Below W.heap.size W w)(a:W.heap.size<=b)(v0 v1 v2 v3 v4 v5 v6 v7 f g c d e:Value) :
  Below W.heap.size W (((((((((((((w.setCell (b,0) v0).setCell (b,1) v1).setCell (b,2) v2).setCell (b,3) v3).setCell (b,4) v4).setCell (b,5) v5).setCell (b,6) v6).setCell (b,7) v7).setCell (b,8) f).setCell (b,9) g).setCell (b,10) c).setCell (b,11) d).setCell (b,12) e):=by
 exact(Below.setCell (Below.setCell (Below.setCell (Below.setCell (Below.setCell (Below.setCell (Below.setCell (Below.setCell (Below.setCell (Below.setCell (Below.setCell (Below.setCell (Below.setCell h a v0) a v1) a v2) a v3) a v4) a v5) a v6) a v7) a f) a g) a c) a d) a e)
theorem zdl (w:World)(b:Nat)(v0 v1 v2 v3 v4 v5 v6 v7 e f a c d:Value) :
  zx w (((((((((((((w.setCell (b,0) v0).setCell (b,1) v1).setCell (b,2) v2).setCell (b,3) v3).setCell (b,4) v4).setCell (b,5) v5).setCell (b,6) v6).setCell (b,7) v7).setCell (b,8) e).setCell (b,9) f).setCell (b,10) a).setCell (b,11) c).setCell (b,12) d) (λx=>x=b):=by
 exact((((((((((((((zx.refl w (λx=>x=b)).set rfl v0).set rfl v1).set rfl v2).set rfl v3).set rfl v4).set rfl v5).set rfl v6).set rfl v7).set rfl e).set rfl f).set rfl a).set rfl c).set rfl d)
section
open Go.RowKit
variable{w w':World}{base t c N:Nat}{v:Value}{L C:Nat->Value}
def qd (p:zH):List Value:=(List.range (p.n*2)).map (qn p)
theorem zaT (p:zH):(qd p).length=p.n*2:=by simp[qd]
theorem zlJ {p:zH}{j:Nat}{u:Value}(h:(qd p)[j]?=some u):j<p.n*2/\u=qn p j:=by
 unfold qd at h;rw[List.getElem?_map] at h
 by_cases hj:j<p.n*2
 ·rw[List.getElem?_range hj] at h;simp at h;exact⟨hj,h.symm⟩
 ·rw[List.getElem?_eq_none (by simpa using hj)] at h;cases h
theorem zcH (p:zH):∀ u ∈ qd p,u.oneCell'=true:=by
 intro u a;unfold qd at a;obtain⟨j,_,rfl⟩:=List.mem_map.1 a;unfold qn
 split <;> rfl
theorem zcI {d:Option Addr}{p:zH}(h:zG w d p):∀ a,d=some a->∀ j u,(qd p)[j]?=some u->w.cell? (a.add j)=some u:=by
 intro a e j u i;obtain⟨hj,rfl⟩:=zlJ i;obtain⟨b,off,f,g,h1⟩:=h (j / 2) (by omega)
 rw[e] at f
 cases f
 rw[Addr.add_lit];unfold qn
 by_cases c:j % 2=0
 ·rw[Jf c,← g,show off+j / 2*2=off+j by omega]
 ·rw[Je c,← h1,show off+j / 2*2+1=off+j by omega]
theorem zfE {a:Option Addr}{p:zH}(h:w.ownsRow base t 2 (a,p.n,c) p.n (qd p)):zG w a p:=by
 intro k hk;obtain⟨g,rfl,_,_⟩:=qh h (by omega)
 refine⟨g,0,rfl,?_,?_⟩
 ·rw[Nat.zero_add,zs h _ (by omega) rfl,zeY]
 ·rw[Nat.zero_add,zs h _ (by omega) rfl,zeZ]
structure qM (w:World)(base:Nat)(v:Value)(N:Nat)(S:Nat->Zj)(L C:Nat->Value):Prop where
 row:w.ownsRow base 140 8 v N ((List.range (N*8)).map (qz S L C))
 la:∀ i,i<N->w.ownsRow base 223 2 (L i) (S i).la.n (qd (S i).la)
 ca:∀ i,i<N->w.ownsRow base 231 2 (C i) (S i).ca.n (qd (S i).ca)
 apart:∀ i j,i<j->j<N->(∀ b,(L i).ownBlock=some b->(L j).ownBlock≠some b)/\(∀ b,(C i).ownBlock=some b->(C j).ownBlock≠some b)
theorem qM.below {S:Nat->Zj}(h:qM w base v N S L C)(a:Below w.heap.size w w'):qM w' base v N S L C :=
 ⟨zo a h.row,λi b=>zo a (h.la i b),λi b=>zo a (h.ca i b),h.apart⟩
theorem qM.kept {S:Nat->Zj}{T:Nat->Prop}(h:qM w base v N S L C)(e:zx w w' T)(d:∀ b,T b->b<base):qM w' base v N S L C :=
 ⟨e.own h.row (λg a s=>by have:=(h.row.lt g a).1;have:=d g s;omega),λi c=>e.own (h.la i c) (λg a s=>by have:=((h.la i c).lt g a).1;have:=d g s;omega),
  λi c=>e.own (h.ca i c) (λg a s=>by have:=((h.ca i c).lt g a).1;have:=d g s;omega),h.apart⟩
theorem qM.base {d:Nat}{S:Nat->Zj}(h:qM w c v N S L C)(a:d<=c):qM w d v N S L C :=
 ⟨zu h.row a,λi b=>zu (h.la i b) a,λi b=>zu (h.ca i b) a,h.apart⟩
theorem qM.at {b:Option Addr}{S:Nat->Zj}(h:qM w base (b,N,c) N S L C):qB w b N S:=by
 intro k a;obtain⟨g,rfl,_,_⟩:=qh h.row (by omega)
 obtain⟨la,o,d,l,m,n⟩:=zp (h.la k a);obtain⟨ca,j,e,c1,c2,c3⟩:=zp (h.ca k a);have f:=h.la k a;have i:=h.ca k a;rw[d] at f;rw[e] at i;refine⟨g,0,la,o,ca,j,rfl,?_,?_,?_,?_,?_,?_,?_,?_,zfE f,zfE i,⟨l,m,n⟩,⟨c1,c2,c3⟩⟩
 ·rw[Nat.zero_add,zs h.row _ (by omega) rfl,zcd]
 ·rw[Nat.zero_add,zs h.row _ (by omega) rfl,zce]
 ·rw[Nat.zero_add,zs h.row _ (by omega) rfl,zcf]
 ·rw[Nat.zero_add,zs h.row _ (by omega) rfl,zcg]
 ·rw[Nat.zero_add,zs h.row _ (by omega) rfl,zch]
 ·rw[Nat.zero_add,zs h.row _ (by omega) rfl,Q2,d]
 ·rw[Nat.zero_add,zs h.row _ (by omega) rfl,Q4,e]
 ·rw[Nat.zero_add,zs h.row _ (by omega) rfl,zci]
theorem qM.nil (w:World)(base:Nat)(S:Nat->Zj)(L C:Nat->Value):qM w base True 0 S L C :=
 ⟨⟨rfl,.inl ⟨rfl,rfl⟩⟩,λi a=>by omega,λi a=>by omega,λi j a hj=>by omega⟩
end
end Go.Proofs.YtmdnjgihooflfaaGreatDoor
