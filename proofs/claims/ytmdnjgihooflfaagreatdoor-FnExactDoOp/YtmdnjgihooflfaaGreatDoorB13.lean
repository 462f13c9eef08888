import Derived.Test.YtmdnjgihooflfaaGreatDoorB09
import Derived.Test.YtmdnjgihooflfaaGreatDoorB07
import Derived.Test.YtmdnjgihooflfaaGreatDoorB02
namespace Go.Proofs.YtmdnjgihooflfaaGreatDoor
open Go.RowKit
open Go.Value (int)
open Go.IntKind (i64)
open _root_.Go.Proofs.Tryz
set_option maxHeartbeats 64000000
set_option maxRecDepth 1000000
variable{w:World}{g t:Nat}{u0 u1 u2 u3:Value}
def og (k:Wk):List Value:=[k.j5,(k.j3:Int),k.e,k.p.v,k.p.f,k.p.j,k.p.w,k.p.h,k.p.x,k.E]
def DM (l:List Wk):List Value:=l.flatMap og
theorem TU (l:List Wk)(k:Wk):DM (l++[k])=DM l++og k:=by simp[DM]
theorem fz (l m:List Wk):DM (l++m)=DM l++DM m:=by simp[DM]
theorem PF (l:List Wk):(DM l).length=l.length*10:=by
 induction l with
 |nil=>rfl
 |cons a l ih=>show(_++DM l).length=_;rw[List.length_append,ih,List.length_cons];show 10+_=_;omega
theorem PG (l:List Wk):∀ u ∈ DM l,u.oneCell'=true:=by
 intro u a;obtain⟨k,_,h⟩:=List.mem_flatMap.1 a;simp only[og,List.mem_cons,List.not_mem_nil,or_false] at h
 rcases h with rfl|rfl|rfl|rfl|rfl|rfl|rfl|rfl|rfl|rfl <;> rfl
theorem Tryz.infoWorkI:(Tryz.prog.info? 268).map (λi=>(i.zero,i.size,i.bytes))=some (some (.agg #[(),(),(),(),(),(),(),.bool false,(),.bool false]),10,80):=kR
theorem Tryz.sizeWorkI:(Tryz.prog.info? 268).map (·.size)=some 10:=kR
theorem TV (a b who pe len hei cl be:Int)(all goes:Bool) :
  Tryz.prog.builtSlice 268 1 [(0,.agg #[int i64 a,int i64 b,int i64 who,int i64 pe,int i64 len,int i64 hei,int i64 cl,.bool all,int i64 be,.bool goes])]=some #[int i64 a,int i64 b,int i64 who,int i64 pe,int i64 len,int i64 hei,int i64 cl,.bool all,int i64 be,.bool goes]:=by kernel_rfl
def Sb (a b:Bool):List Nat:=(if a=true then [0] else [])++(if b=true then [1] else [])++[2]
theorem gd (a b:Bool):(Sb a b).length=(Ma a b).length:=by cases a <;> cases b <;> rfl
theorem kh (a b:Bool)(k:Nat)(c:k<(Sb a b).length):(Ma a b)[k]?=some (((Sb a b)[k]:Nat):Int):=by
 cases a <;> cases b <;> simp only[Sb,Ma] at c ⊢ <;> simp at c
 ·have:=by omega
  subst this;rfl
 ·have:k=0∨k=1:=oM
  rcases this with rfl|rfl <;> rfl
 ·have:k=0∨k=1:=oM
  rcases this with rfl|rfl <;> rfl
 ·have:k=0∨k=1∨k=2:=oM
  rcases this with rfl|rfl|rfl <;> rfl
def ge (p:ZP):Prop:=Mb p=Q1 p.f p.w 0/\Mc p=Q1 p.f p.w 1
theorem kj {goes:Bool}{who:Int}{p:ZP}{leg:Int}(h:ge p):qM goes who p leg 3=(Sb (Mb p) (Mc p)).map (λr=>⟨leg,r,goes,who,p⟩):=by
 have h2:Q1 p.f p.w 2=true:=rfl;rw[h.1,h.2];unfold qM;rw[Jf h2];unfold qM
 cases h1:Q1 _ _ 1 <;> cases h0:Q1 _ _ 0 <;> simp[qM,h0,Sb]
theorem Nb {p:ZP}(h:Zc p):ge p:=by
 refine⟨?_,?_⟩
 ·unfold Mb Q1
  rw[Je dC,Jf rfl,decide_eq_decide]
  rcases h.2.1 with⟨h1,h2⟩|h1
  ·simp[h1,h2]
  ·unfold Ce In at h1
   constructor <;> intro _ <;> omega
 ·unfold Mc Q1
  rw[Je dC,Je dC,decide_eq_decide]
  rcases h.2.2 with⟨h1,h2,h3⟩|h1
  ·simp[h1,h2,h3]
  ·unfold Fb In at h1
   constructor
   ·intro _;omega
   ·rintro _ ⟨h2,_⟩;omega
theorem Ix (ao:Option Addr)(n c:Nat)(F:Nat->Int)(who:Int)(p:ZP)(goes:Bool)(w:World)(hn:n<=3)(hp:ge p)(hx:zS w ao n F) :
  Calls prog 200 #[(ao,n,c),.agg #[(),(),who,p.v,p.f,p.j,p.w,p.h,p.x,goes]] w λe w'=>(∃ v,e=.returned v/\w'.ownsRow w 268 10 v (Za goes who p F n).length (DM (Za goes who p F n)))/\Below w w w':=by
 obtain⟨j0,ji,a9,b0,b1⟩:=info_parts Tryz.infoWorkI;have HX:=hI hx;have HP:=hI hp;clear hx hp;have s:Below _ w (w.alloc (.cells #[(),(),who,p.v,p.f,p.j,p.w,p.h,p.x,goes] 268)):=zd bZ _;have L:=Qc s;have Z:=nl s;go_enter func200,ntmps200;go_wp2;generalize w.alloc _=V at s L Z ⊢;go_loopw [5,7,9,12] (λs5 _ _ q wr=>∃ i,i<=n/\q=int i64 i/\wr.ownsRow (w.heap.size+1) 268 10 s5 (Za goes who p F i).length (DM (Za goes who p F i))/\(∃ a b,wr.heap[w.heap.size]?=some (.cells #[int i64 a,int i64 b,int i64 who,int i64 p.v,int i64 p.f,int i64 p.j,int i64 p.w,.bool p.h,int i64 p.x,.bool goes] 268 (0,0)))/\Below w w wr/\w.heap.size+1<=wr.heap.size) (λ_ _ _ q _=>n - (intOf q).toNat)
 case atStart=>exact⟨0,Jq _,rfl,World.ownsRow_nil _ _ _ _,⟨0,0,L⟩,s,by omega⟩
 case round =>
  obtain⟨i,hi,rfl,o,⟨a,b,l⟩,d,h⟩:=hrel;clear s L Z V
  by_cases hlt:i<n
  ·obtain⟨gb,go,rfl,T⟩:=HX.out i hlt
   have cg:=(d.cell (Ja w _ T)).trans T;have x3:=bC l 3;have x4:=bC l 4;have x5:=bC l 5;have x6:=bC l 6;have x7:=bC l 7;have x8:=bC l 8;go_wp2_with fail;clear x3 x4 x5 x6 x7 x8 cg;refine(Md p _).mono ?_;rintro e W1 ⟨⟨rv,rfl,f⟩,t⟩;obtain⟨ra,rc,rfl,_,_,_⟩:=zn f;have J:=hI (zo f h);replace o:=zm t o;replace l:=za l t;replace d:=zb d t;replace h:=Jp h t.size;clear t f;obtain⟨m,G⟩:=nM (Sb (Mb p) (Mc p));obtain⟨M,R⟩:=nM ((Ma (Mb p) (Mc p)).length);have K:Hid (_/\M=m.length):=⟨G,by rw[R,G,gd]⟩
   have P:Hid (∀ k (hk:k<m.length),(Ma (Mb p) (Mc p))[k]?=some (int i64 ((m[k]:Nat):Int))):=by subst G;exact λk hk=>kh _ _ k hk
   have b2:M<=3:=by rw[R];exact ke _ _
   obtain⟨xs,O⟩:=nM (Ma (Mb p) (Mc p));rw[← R,← O] at J;rw[← O] at P;rw[← R];clear G R O;obtain⟨H,z⟩:=nM (Za goes who p F i);have a0:Hid (Za goes who p F (i+1)=H++m.map (λr=>(⟨F i,r,goes,who,p⟩:Wk))):=by show _=_;rw[z,K.1,← kj HP.out];rfl
   have b5:H.length<=9:=by rw[z];have:=QL goes who p F i;omega
   rw[← z] at o;clear z;go_wp2;go_loopw [5,9,20] (λs5 _ q w5=>∃ k,k<=M/\q=int i64 k/\w5.ownsRow (w.heap.size+1) 268 10 s5 (H++(m.take k).map (λr=>(⟨F i,r,goes,who,p⟩:Wk))).length (DM (H++(m.take k).map (λr=>(⟨F i,r,goes,who,p⟩:Wk))))/\(∃ a b,w5.heap[w.heap.size]?=some (.cells #[int i64 a,int i64 b,int i64 who,int i64 p.v,int i64 p.f,int i64 p.j,int i64 p.w,.bool p.h,int i64 p.x,.bool goes] 268 (0,0)))/\w5.ownsRow (w.heap.size+1) 3 1 (.slice ra M rc) M xs/\Below w w w5/\w.heap.size+1<=w5.heap.size) (λ_ _ q _=>M - (intOf q).toNat)
   case atStart=>exact⟨0,Jq _,rfl,by simpa using o,⟨a,b,l⟩,J.out,d,h⟩
   case round =>
    clear o l J d h a b;obtain⟨k,hk,rfl,o,⟨a,b,l⟩,f,d,h⟩:=hrel;obtain⟨L1,A⟩:=nM (H++(m.take k).map (λr=>(⟨F i,r,goes,who,p⟩:Wk)))
    have Q:=hI A;have b6:L1.length<=12:=by rw[A,List.length_append,List.length_map,List.length_take];omega
    rw[← A] at o;clear A
    by_cases hlk:k<M
    ·obtain⟨g,a7,b3,b4⟩:=qr f oM
     subst a7;have U:k<m.length:=by rw[← K.2];exact hlk
     obtain⟨r,hr⟩:=nM (m[k]);have ck:wr.cell? ⟨g,k,none⟩=some (int i64 (r:Int)):=by rw[f.cellAt k oM,P.out k U,hr]
     have a2:Hid (m.take (k+1)=m.take k++[r]):=by show _=_;rw[hr,List.take_add_one,List.getElem?_eq_getElem U];rfl
     have y0:=bC l 0;have y1:=bC l 1;have f0:=zc l 0;have f1:=zc l 1;have D:zl wr ((wr.setCell _ (int i64 (F i))).setCell _ (int i64 (r:Int))) _:=((zl.refl wr (λb=>b=w.heap.size)).set (a:=⟨w.heap.size,0,none⟩) rfl _).set (a:=⟨w.heap.size,1,none⟩) rfl _
     have N:((wr.setCell ⟨w.heap.size,0,none⟩ (int i64 (F i))).setCell ⟨w.heap.size,1,none⟩ (int i64 (r:Int))).heap[w.heap.size]?=some (.cells #[int i64 (F i),int i64 (r:Int),int i64 who,int i64 p.v,int i64 p.f,int i64 p.j,int i64 p.w,.bool p.h,int i64 p.x,.bool goes] 268 (0,0)):=by simpa using zk (zk l 0 _) 1 _
     have W:=D.j1 o (λq h1 h2=>by have h2:=h2;have:=(o.lt q h1).1;omega)
     have x:=D.j1 f (λq h1 h2=>by have h2:=h2;have:=(f.lt q h1).1;omega)
     have S:Below _ w ((wr.setCell _ (int i64 (F i))).setCell _ (int i64 (r:Int))):=(d.setCell (p:=⟨w.heap.size,0,none⟩) (Jr _) _).setCell (p:=⟨w.heap.size,1,none⟩) (Jr _) _;have I:=Jp h D.size;clear hr D;go_upto_region 9 with fail;generalize (wr.setCell _ _).setCell _ _=Y at N W x S I ⊢;clear y0 y1 f0 f1 ck d h l o f;have E:=W.alloc (.cells #[int i64 (F i),int i64 (r:Int),int i64 who,int i64 p.v,int i64 p.f,int i64 p.j,int i64 p.w,.bool p.h,int i64 p.x,.bool goes] 268);have a1:Hid (∀ j u,([_,_,_,_,_,_,_,_,_,_]:List Value)[j]?=_->(Y.alloc (.cells #[int i64 (F i),int i64 (r:Int),int i64 who,int i64 p.v,int i64 p.f,int i64 p.j,int i64 p.w,.bool p.h,int i64 p.x,.bool goes] 268)).cell? _=_):=Jo (Jb Y _);have y:_<=(Y.alloc (.cells #[int i64 (F i),int i64 (r:Int),int i64 who,int i64 p.v,int i64 p.f,int i64 p.j,int i64 p.w,.bool p.h,int i64 p.x,.bool goes] 268)).heap.size:=Jp I sM;refine wp_region_lit ?_;refine Go.Great.wpList_runTo rfl _ rfl _ _ (show _ from rfl) ?_;refine wpList_load_row rfl _ _ rfl _ rfl _ _ _ _ N underlying268 rfl Tryz.sizeWorkI ?_;refine Go.Great.wpList_buildSliceTo rfl _ _ 1 _ rfl _ rfl _ rfl underlying175 _ (Eq.trans (congrArg _ (show _ from by first|(simp[go_sem];done)|rfl|kernel_rfl)) (TV (F i) (r:Int) who p.v p.f p.j p.w p.x p.h goes)) ?_
     go_wp2_with (first|(at_builtin;refine wpList_append_lies _ rfl _ _ 175 rfl _ 268 j0 _ 10 80 underlying175 ji a9 b0 b1 rfl dC _ _ _ (by rfl) E _ 1 1 _ rfl rfl a1.out (by intro u hu;simp at hu;rcases hu with rfl|rfl|rfl|rfl|rfl|rfl|rfl|rfl|rfl|rfl <;> rfl) dC (by unfold maxLen;omega) oM y _ rfl ?_;intro g3 a5 w3 a8 C _ _))
     have B:Below _ Y (Y.alloc (.cells #[int i64 (F i),int i64 (r:Int),int i64 who,int i64 p.v,int i64 p.f,int i64 p.j,int i64 p.w,.bool p.h,int i64 p.x,.bool goes] 268)):=zd bZ _;have a4:=(qY C).blk (za N B) (λe=>by have:=(E.lt _ e).1;omega)
     have X:=(qY C).j1 (zm B x) (λq h1 h2=>zE E (zm B x) dC q h2 h1)
     have a6:=(zb S B).grown C (Jp (Nat.le_succ _) y) (λj hj=>Jp (Nat.le_succ _) (E.lt j hj).1)
     have a3:Hid (w3.ownsRow (w.heap.size+1) 268 10 (.slice (some ⟨g3,0,none⟩) (L1.length+1) a5) (H++(m.take (k+1)).map (λr=>(⟨F i,r,goes,who,p⟩:Wk))).length (DM (H++(m.take (k+1)).map (λr=>(⟨F i,r,goes,who,p⟩:Wk))))):=by
      have e1:H++(m.take (k+1)).map (λr=>(⟨F i,r,goes,who,p⟩:Wk))=L1++[⟨F i,r,goes,who,p⟩]:=by rw[a2.out,Q.out,List.map_append,List.append_assoc];rfl
      rw[show Hid _=_ from rfl,e1,TU,List.length_append];exact a8
     go_roundw
     case rel=>exact⟨_,by omega,by go_num,a3.out,⟨_,_,a4⟩,X,a6,Jp y C.size⟩
     case measure=>simp[intOf];omega
    ·obtain rfl:k=M:=by omega
     have HE:Hid (L1=Za goes who p F (i+1)):=by show _=_;rw[Q.out,a0.out,List.take_of_length_le (by rw[← K.2];omega)]
     rw[HE.out] at o;go_wp2;go_roundw
     case rel=>exact⟨_,by omega,by go_num,o,⟨a,b,l⟩,d,h⟩
     case measure=>simp[intOf];omega
  ·obtain rfl:i=n:=by omega
   go_wp2;go_ret;exact⟨⟨_,rfl,zo o (Nat.le_succ _)⟩,d⟩
def Od (F:Nat->Int):Value:=.agg #[(F 0),(F 1),(F 2),(F 3)]
def Oe (p:zv)(n:Nat)(S:Nat->ql)(e:Ending):Prop :=
 (EM p n S/\e=.returned (.tuple #[Od (qN p S n),.bool true]))∨(¬ EM p n S/\e=.returned (.tuple #[Od (λ_=>0),.bool false]))
theorem Fh (h:w.heap[g]?=some (.cells #[u0,u1,u2,u3] t (0,0)))(v0 v1 v2 v3:Value) :
  ((((w.setCell (g,0) v0).setCell (g,1) v1).setCell (g,2) v2).setCell (g,3) v3).heap[g]?=some (.cells #[v0,v1,v2,v3] t (0,0)):=by
 have:=zk (zk (zk (zk h 0 v0) 1 v1) 2 v2) 3 v3
 simpa using this
theorem Dl {w':World}(h:Below w w w')(a:w.heap.size<=g)(v0 v1 v2 v3:Value):Below w w ((((w'.setCell (g,0) v0).setCell (g,1) v1).setCell (g,2) v2).setCell (g,3) v3) :=
 (((h.setCell a _).setCell a _).setCell a _).setCell a _
theorem gj (h:w.heap[g]?=some (.cells #[(),(),(),()] t (0,0))):w.rowIs g t 4 (λk=>int i64 (QM 0 (λ_=>(0:Int)) 0 k)):=by
 refine⟨_,h,rfl,λi hi=>?_⟩
 have:i=0∨i=1∨i=2∨i=3:=oM
 rcases this with rfl|rfl|rfl|rfl <;> rfl
theorem Fi (ao bo:Option Addr)(m mc n c:Nat)(p:zv)(S:Nat->ql)(w:World)(X:p.n=m)(hm:m<=1048576)(hn:n<=1048576)(hc:n<=c)(hx:zJ w ao p)(hz:qx w bo n S) :
  Calls prog 236 #[(ao,m,mc),(bo,n,c)] w λe w'=>Oe p n S e/\Below w.heap.size w w':=by
 have P:=hI X;have HX:=hI hx;have HZ:=hI hz;clear X hx hz;have D:Below _ w (w.alloc (.cells #[(),(),(),()] 319)):=zd bZ _;have r0:=Qc D;go_enter func236,ntmps236;go_wp2_with fail;refine(FR ao m mc p _ P hm (HX.j0 D)).mono ?_;rintro e w1 ⟨⟨q,rfl,hq⟩,R⟩;have C:=zb D R;have L:=za r0 R;clear D r0 R
 cases q with
 |false =>
  obtain⟨o0,o1,o2,o3⟩:=Qk L;obtain⟨f0,f1,f2,f3⟩:=EV L;have Z:Hid (¬ Ir p):=λh=>by have:=hq.2 h;cases this
  clear hq;go_wp2;have M:=Fh L () () () ();obtain⟨H,I,J,K⟩:=Qk M;exact Jj (by simp[results,results236,go_sem,H,I,J,K,Od]) rfl ⟨.inr ⟨λh=>Z h.1,rfl⟩,Dl C (Jr _) _ _ _ _⟩
 |true =>
  have Z:Hid (Ir p):=hq.1 rfl;have a4:m<=4:=by rw[← P.out];exact Z.1
  clear hq
  by_cases h60:n<=60
  ·have d0:decide (60<n)=false:=by simp;omega
   go_upto_region 4 with fail;have r2:=zg L (.cells #[(),(),(),()] 319);have x2:=gj (Jb w1 (.cells _ 319));have Q:=zd C (.cells #[(),(),(),()] 319);have hf:=zD L;generalize w1.alloc _=w2 at r2 x2 Q ⊢;generalize w1.heap.size=f at hf x2 ⊢;clear L C;go_wp2;go_loopw [7,21] (λ_ i wr=>∃ k,k<=m/\i=int i64 k/\wr.rowIs f 319 4 (λj=>int i64 (QM k p.A 0 j))/\wr.heap[w.heap.size]?=some (.cells #[(),(),(),()] 319 (0,0))/\Below w.heap.size w wr) (λ_ i _=>m - (intOf i).toNat)
   case atStart=>exact⟨0,Jq _,rfl,x2.congr (λj _=>by unfold QM;rw[Je (Nat.not_lt_zero _),Je (Nat.not_lt_zero _)]),r2,Q⟩
   case round =>
    obtain⟨k,hk,rfl,t,hr,x⟩:=hrel;clear r2 x2 Q
    by_cases hlt:k<m
    ·obtain⟨b,off,rfl,h1,h2⟩:=HX k (by rw[P.out];exact hlt)
     have V:=Ja w _ h1;have c1:=(x.cell V).trans h1;have o0:=t.cell (i:=k) (by omega)
     have f0:=t.frozen k;have i1:(0:Int)<=(k:Int):=by omega
     have i2:(k:Int)<4:=by omega
     clear h1 h2;go_wp2;go_roundw
     case rel=>exact⟨k+1,by omega,by go_num,(t.set k _).congr (λj _=>by
      by_cases e:j=k
      ·subst e;rw[Jf rfl,qi _ _ (Nat.lt_succ_self _)]
      ·rw[Je e,QJ _ _ _ _ e]),zG hr _ _ (by omega),x.setCell (by show w.heap.size<=f;omega) _⟩
     case measure=>simp[intOf];omega
    ·obtain rfl:k=m:=by omega
     have z:wr.rowIs f 319 4 (λj=>.int _ (qN p S 0 j)):=t.congr (λj _=>by rw[fw,P.out])
     clear t;go_wp2;go_loopw [8,9,34] (λ_ _ i wr=>∃ k,k<=n/\i=int i64 k/\(∀ j,j<k->¬ Qh (Zm S) j (S j).e/\Kc p (left p S j) (S j))/\wr.rowIs f 319 4 (λj=>int i64 (qN p S k j))/\wr.heap[w.heap.size]?=some (.cells #[(),(),(),()] 319 (0,0))/\Below w.heap.size w wr) (λ_ _ i _=>n - (intOf i).toNat)
     case atStart=>exact⟨0,Jq _,rfl,λj hj=>by omega,z,hr,x⟩
     case round =>
      obtain⟨i,hi,rfl,O,d,y,a⟩:=hrel;have HA:=hI O;clear O z hr x
      by_cases hlt2:i<n
      ·obtain⟨b,off,rfl,h0,h1,h2,h3⟩:=HZ i hlt2
       have V:=Ja w _ h0;have c0:=(a.cell V).trans h0;have c1:=(a.cell (p:=⟨b,_+1,_⟩) V).trans h1;have c2:=(a.cell (p:=⟨b,_+2,_⟩) V).trans h2;have c3:=(a.cell (p:=⟨b,_+3,_⟩) V).trans h3;have o:=Jb wr (.cells #[(S i).e,(S i).ln,(S i).f,(S i).j] 220);have r:=zd a (.cells #[(S i).e,(S i).ln,(S i).f,(S i).j] 220);have A:=zg y (.cells #[(S i).e,(S i).ln,(S i).f,(S i).j] 220);have u:=qo d (zd (Ji _ wr) (.cells #[(S i).e,(S i).ln,(S i).f,(S i).j] 220));clear h0 h1 h2 h3;go_upto_region 12 with fail;generalize hW:wr.alloc _=W at o r A u ⊢;clear hW;have F:=zD o;have E:=u.lt;have a3:=hI u;have z0:∀ g:zy W,g.val.cell? _=some (.int _ _):=λg=>(g.o.cell F).trans (zf o 0 _ rfl)
       have z1:∀ g:zy W,g.val.cell? _=some (.int _ _):=λg=>(g.o.cell F).trans (zf o 1 _ rfl)
       have z2:∀ g:zy W,g.val.cell? _=some (.int _ _):=λg=>(g.o.cell F).trans (zf o 2 _ rfl)
       have z3:∀ g:zy W,g.val.cell? _=some (.int _ _):=λg=>(g.o.cell F).trans (zf o 3 _ rfl)
       have y0:∀ g:zy W,_:=λg=>(g.o.cell E).trans (u.cell (i:=0) (by omega))
       have y1:∀ g:zy W,_:=λg=>(g.o.cell E).trans (u.cell (i:=1) (by omega))
       have y2:∀ g:zy W,_:=λg=>(g.o.cell E).trans (u.cell (i:=2) (by omega))
       have y3:∀ g:zy W,_:=λg=>(g.o.cell E).trans (u.cell (i:=3) (by omega))
       have i1:(0:Int)<=(i:Int):=by omega
       have i2:(i:Int)<=(c:Int):=by omega
       clear c0 c1 c2 c3 o d y a u
       by_cases hh:Qh (Zm S) i (S i).e
       ·have e1:=Jd ((QK _ _ _).2 hh)
        have HH:=hI hh;clear hh;refine ze (by kernel_rfl) (by kernel_rfl) ?_
        repeat(first|go_big_quiet_skip|(go_big_quiet_want;go_big_quiet_op;first|go_big_quiet_on|(apply Jg;refine⟨λg=>?_,?_⟩;(focus(first|(go_at_call 243;refine zr (v:=int i64 (Zt (Zm S) (S i).e i)) ((BP _ i c S _ _ (by omega) ((HZ.j9 (by omega)).j0 (zb r g.o))).mono ?_);rintro e w4 ⟨rfl,s⟩;exact⟨rfl,s⟩)));go_big_quiet_on)))
        refine Jl ?_;rintro _ ⟨g,rfl⟩;have U:=za A g.o;obtain⟨o0,o1,o2,o3⟩:=Qk U;obtain⟨f0,f1,f2,f3⟩:=EV U;go_wp2;have M:=Fh U () () () ();obtain⟨H,I,J,K⟩:=Qk M;exact Jj (by simp[results,results236,go_sem,H,I,J,K,Od]) rfl ⟨.inr ⟨λh=>(h.2.2 i hlt2).1 HH,rfl⟩,Dl (zb r g.o) (Jr _) _ _ _ _⟩
       ·have e1:=Jc (λh=>hh ((QK _ _ _).1 h))
        have HH:=hI hh;clear hh
        by_cases hfit:Kc p (qN p S i) (S i)
        ·have B:=hI hfit
         clear hfit;refine ze (by kernel_rfl) (by kernel_rfl) ?_
         repeat(first|go_big_quiet_skip|(go_big_quiet_want;go_big_quiet_op;first|go_big_quiet_on|(apply Jg;refine⟨λg=>?_,?_⟩;(focus(first|(go_at_call 243;refine zr (v:=int i64 (Zt (Zm S) (S i).e i)) ((BP _ i c S _ _ (by omega) ((HZ.j9 (by omega)).j0 (zb r g.o))).mono ?_);rintro e w4 ⟨rfl,s⟩;exact⟨rfl,s⟩)|(go_at_call 264;refine zr (v:=.bool true) ((Gk _ _ mc p _ _ _ _ _ _ P a4 (HX.j0 (zb r g.o))).mono ?_);rintro e w4 ⟨⟨bb,rfl,hi⟩,s⟩;obtain rfl:=hi.2 B;exact⟨rfl,s⟩)));go_big_quiet_on)))
         refine Jl ?_;rintro _ ⟨g,rfl⟩;obtain⟨l,X⟩:∃ l:Nat,(S i).ln=l:=⟨(S i).ln.toNat,by have:=B.ln;unfold In at this;omega⟩
         have a7:l<p.n:=by have:=B.ln;unfold In at this;omega
         have a0:=hI X;have l4:l<4:=by have:=P.out;omega
         have v1:g.val.cell? ⟨wr.heap.size,1,none⟩=some (int i64 (l:Int)):=by rw[z1 g,X]
         have v2:=z2 g;have N:=qo a3 g.o;have v3:=N.cell l4;have v4:=N.frozen l;have l1:(0:Int)<=(l:Int):=by omega
         have l2:(l:Int)<4:=by omega
         have HB:=hI (LZ l Z (by omega) (λj hj=>(HA j hj).2.f))
         have HN:=hI B.f;have a9:IntKind.i64.wrap (qN p S i l - (S i).f)=qN p S i l - (S i).f:=by
          have h1:=HB.out;have h2:=HN.out;unfold In at h2;rw[Jk];omega
         have a1:=hI (za A g.o);have Y:=hI (zb r g.o);have a2:=hI N;clear X N z0 z1 z2 z3 y0 y1 y2 y3 A r;generalize g.val=G at *;go_upto_region 14 with fail;have T:Hid ((G.setCell (f,l) (int i64 (qN p S i l - (S i).f))).drew.rowIs f 319 4 (λj=>int i64 (qN p S (i+1) j))):=by
          refine(a2.set l _).congr (λj _=>?_)
          rw[← PB p S i l j a7 a0.out]
          split <;> rfl
         have a8:Hid ((G.setCell ⟨f,l,_⟩ (int i64 (qN p S i l - (S i).f))).drew.heap[w.heap.size]?=_):=zK (zG a1 _ _ (by omega))
         have a6:Hid (Below _ w (G.setCell (f,l) (int i64 (qN p S i l - (S i).f))).drew):=(Y.setCell (by show w.heap.size<=f;omega) _).drew
         have a5:Hid (∀ j,j<i+1->¬ Qh _ j (S j).e/\Kc p _ _):=λj hj=>by
          by_cases e:j=i
          ·subst e;exact⟨HH,Hh.1 B⟩
          ·exact HA j (by omega)
         clear HH B HA a0 a1 Y a2 HB HN a3;go_region
         all_goals (go_wp2;go_roundw)
         all_goals first|(exact⟨_,by omega,by go_num,a5,T,a8,a6⟩)|(simp[intOf];omega)
        ·have B:=hI hfit
         clear hfit;refine ze (by kernel_rfl) (by kernel_rfl) ?_
         repeat(first|go_big_quiet_skip|(go_big_quiet_want;go_big_quiet_op;first|go_big_quiet_on|(apply Jg;refine⟨λg=>?_,?_⟩;(focus(first|(go_at_call 243;refine zr (v:=int i64 (Zt (Zm S) (S i).e i)) ((BP _ i c S _ _ (by omega) ((HZ.j9 (by omega)).j0 (zb r g.o))).mono ?_);rintro e w4 ⟨rfl,s⟩;exact⟨rfl,s⟩)|(go_at_call 264;refine zr (v:=.bool false) ((Gk _ _ mc p _ _ _ _ _ _ P a4 (HX.j0 (zb r g.o))).mono ?_);rintro e w4 ⟨⟨bb,rfl,hi⟩,s⟩;obtain rfl:=Bool.eq_false_iff.2 (λe=>B (hi.1 e));exact⟨rfl,s⟩)));go_big_quiet_on)))
         refine Jl ?_;rintro _ ⟨g,rfl⟩;have U:=za A g.o;obtain⟨o0,o1,o2,o3⟩:=Qk U;obtain⟨f0,f1,f2,f3⟩:=EV U;go_wp2;have M:=Fh U () () () ();obtain⟨H,I,J,K⟩:=Qk M;exact Jj (by simp[results,results236,go_sem,H,I,J,K,Od]) rfl ⟨.inr ⟨λh=>B (Hh.2 (h.2.2 i hlt2).2),rfl⟩,Dl (zb r g.o) (Jr _) _ _ _ _⟩
      ·obtain rfl:i=n:=by omega
       obtain⟨o0,o1,o2,o3⟩:=Qk y;obtain⟨f0,f1,f2,f3⟩:=EV y;have c0:=d.cell (i:=0) (by omega)
       have c1:=d.cell (i:=1) (by omega)
       have c2:=d.cell (i:=2) (by omega)
       have c3:=d.cell (i:=3) (by omega)
       go_wp2;have M:=Fh y (qN p S i 0) (qN p S i 1) (qN p S i 2) (qN p S i 3);obtain⟨H,I,J,K⟩:=Qk M;exact Jj (by simp[results,results236,go_sem,H,I,J,K,Od]) rfl ⟨.inl ⟨⟨Z,h60,HA⟩,rfl⟩,Dl a (Jr _) _ _ _ _⟩
  ·have d0:decide (60<n)=true:=by simp;omega
   obtain⟨o0,o1,o2,o3⟩:=Qk L;obtain⟨f0,f1,f2,f3⟩:=EV L;go_wp2;have M:=Fh L () () () ();obtain⟨H,I,J,K⟩:=Qk M;exact Jj (by simp[results,results236,go_sem,H,I,J,K,Od]) rfl ⟨.inr ⟨λh=>h60 h.2.1,rfl⟩,Dl C (Jr _) _ _ _ _⟩
def PM (p:zv)(n:Nat)(S:Nat->zU)(e:Ending):Prop :=
 (Lh p n S/\e=.returned (.tuple #[af (ZK p S n),.bool true]))∨(¬ Lh p n S/\e=.returned (.tuple #[af (λ_=>0),.bool false]))
theorem FA {u4 u5:Value}(h:w.heap[g]?=some (.cells #[u0,u1,u2,u3,u4,u5] t (0,0)))(v0 v1 v2 v3 v4 v5:Value) :
  ((((((w.setCell (g,0) v0).setCell (g,1) v1).setCell (g,2) v2).setCell (g,3) v3).setCell (g,4) v4).setCell (g,5) v5).heap[g]?=some (.cells #[v0,v1,v2,v3,v4,v5] t (0,0)):=by
 have:=zk (zk (zk (zk (zk (zk h 0 v0) 1 v1) 2 v2) 3 v3) 4 v4) 5 v5
 simpa using this
theorem CR {w':World}(h:Below w w w')(a:w.heap.size<=g)(v0 v1 v2 v3 v4 v5:Value):Below w w ((((((w'.setCell (g,0) v0).setCell (g,1) v1).setCell (g,2) v2).setCell (g,3) v3).setCell (g,4) v4).setCell (g,5) v5) :=
 (((((h.setCell a _).setCell a _).setCell a _).setCell a _).setCell a _).setCell a _
theorem ag (h:w.heap[g]?=some (.cells #[(),(),(),(),(),()] t (0,0))):w.rowIs g t 6 (λk=>int i64 (QM 0 (λ_=>(0:Int)) 0 k)):=by
 refine⟨_,h,rfl,λi hi=>?_⟩
 have:i=0∨i=1∨i=2∨i=3∨i=4∨i=5:=oM
 rcases this with rfl|rfl|rfl|rfl|rfl|rfl <;> rfl
theorem BQ (ao bo:Option Addr)(m mc n c:Nat)(p:zv)(S:Nat->zU)(w:World)(hl:p.n=m)(hm:m<=1048576)(hn:n<=1048576)(hc:n<=c)(hx:zJ w ao p)(hz:qn w bo n S) :
  Calls prog 237 #[(ao,m,mc),(bo,n,c)] w λe w'=>PM p n S e/\Below w.heap.size w w':=by
 have X:=hI hl;have HX:=hI hx;have HZ:=hI hz;clear hl hx hz;have O:Below _ w (w.alloc (.cells #[(),(),(),(),(),()] 323)):=zd bZ _;have r0:=Qc O;go_enter func237,ntmps237;go_wp2_with fail;refine(Fj ao m mc p _ X hm (HX.j0 O)).mono ?_;rintro e w1 ⟨⟨q,rfl,hq⟩,a0⟩;have N:=zb O a0;have Q:=za r0 a0;clear O r0 a0
 cases q with
 |false =>
  have T:Hid (¬ Fc p):=λh=>by have:=hq.2 h;cases this
  clear hq;obtain⟨o0,o1,o2,o3,o4,o5⟩:=Rz Q;obtain⟨f0,f1,f2,f3,f4,f5⟩:=nh Q;go_wp2;have K:=FA Q () () () () () ();obtain⟨D,E,F,H,I,J⟩:=Rz K;exact Jj (by simp[results,results237,go_sem,D,E,F,H,I,J,af]) rfl ⟨.inr ⟨λh=>T h.1,rfl⟩,CR N (Jr _) _ _ _ _ _ _⟩
 |true =>
  have T:Hid (Fc p):=hq.1 rfl;have b7:m<=6:=by rw[← X.out];exact T.1
  clear hq
  by_cases h60:n<=60
  ·have d0:decide (60<n)=false:=by simp;omega
   go_upto_region 4 with fail;have r2:=zg Q (.cells #[(),(),(),(),(),()] 323);have x2:=ag (Jb w1 (.cells _ 323));have Y:=zd N (.cells #[(),(),(),(),(),()] 323);have hf:=zD Q;generalize w1.alloc _=w2 at r2 x2 Y ⊢;generalize w1.heap.size=f at hf x2 ⊢;clear Q N;go_wp2;go_loopw [7,8,22] (λ_ _ i wr=>∃ k,k<=m/\i=int i64 k/\wr.rowIs f 323 6 (λj=>int i64 (QM k p.B 0 j))/\wr.heap[w.heap.size]?=some (.cells #[(),(),(),(),(),()] 323 (0,0))/\Below w.heap.size w wr) (λ_ _ i _=>m - (intOf i).toNat)
   case atStart=>exact⟨0,Jq _,rfl,x2.congr (λj _=>by unfold QM;rw[Je (Nat.not_lt_zero _),Je (Nat.not_lt_zero _)]),r2,Y⟩
   case round =>
    obtain⟨k,hk,rfl,x,hr,t⟩:=hrel;clear r2 x2 Y
    by_cases hlt:k<m
    ·obtain⟨b,off,rfl,h1,h2⟩:=HX k (by rw[X.out];exact hlt)
     have Z:=Ja w _ h1;have c1:=(t.cell Z).trans h1;have c2:=(t.cell (p:=⟨b,_+1,_⟩) Z).trans h2;have i1:(0:Int)<=(k:Int):=by omega
     have i2:(k:Int)<6:=by omega
     have C:=qo x (zd (Ji _ wr) (.cells #[(p.A k),(p.B k)] 231));have a5:=zg hr (.cells #[(p.A k),(p.B k)] 231);have a2:=Jb wr (.cells #[(p.A k),(p.B k)] 231);have a1:=zd t (.cells #[(p.A k),(p.B k)] 231);clear h1 h2;go_upto_region 7 with fail;generalize hW:wr.alloc _=W at C a5 a2 a1 ⊢;clear hW;have o0:=C.cell (i:=k) (by omega)
     have f0:=C.frozen k;have z1:=zf a2 1 _ rfl;have b3:=hI C;have b4:=hI a5;have b2:=hI a1;clear C a5 a2 a1 x hr t c1 c2;go_wp2;go_roundw
     case rel=>exact⟨k+1,by omega,by go_num,(b3.set k _).congr (λj _=>by
      by_cases e:j=k
      ·subst e;rw[Jf rfl,qi _ _ (Nat.lt_succ_self _)]
      ·rw[Je e,QJ _ _ _ _ e]),zG b4 _ _ (by omega),b2.setCell (by show w.heap.size<=f;omega) _⟩
     case measure=>simp[intOf];omega
    ·obtain rfl:k=m:=by omega
     have B:wr.rowIs f 323 6 (λj=>.int _ (ZK p S 0 j)):=x.congr (λj _=>by rw[ko,X.out])
     clear x;go_wp2;go_loopw [9,10,34] (λ_ _ i wr=>∃ k,k<=n/\i=int i64 k/\(∀ j,j<k->In (S j).e 1 9999/\¬ Qh (Zl S) j (S j).e/\Bh p (qZ p S j) (S j))/\wr.rowIs f 323 6 (λj=>int i64 (ZK p S k j))/\wr.heap[w.heap.size]?=some (.cells #[(),(),(),(),(),()] 323 (0,0))/\Below w.heap.size w wr) (λ_ _ i _=>n - (intOf i).toNat)
     case atStart=>exact⟨0,Jq _,rfl,λj hj=>by omega,B,hr,t⟩
     case round =>
      obtain⟨i,hi,rfl,U,a,A,d⟩:=hrel;have HA:=hI U;clear U B hr t
      by_cases hlt2:i<n
      ·obtain⟨b,off,rfl,h0,h1,h2,h3⟩:=HZ i hlt2
       have Z:=Ja w _ h0;have c0:=(d.cell Z).trans h0;have c1:=(d.cell (p:=⟨b,_+1,_⟩) Z).trans h1;have c2:=(d.cell (p:=⟨b,_+2,_⟩) Z).trans h2;have c3:=(d.cell (p:=⟨b,_+3,_⟩) Z).trans h3;have o:=Jb wr (.cells #[(S i).e,(S i).H,(S i).z,(S i).h] 228);have r:=zd d (.cells #[(S i).e,(S i).H,(S i).z,(S i).h] 228);have z:=zg A (.cells #[(S i).e,(S i).H,(S i).z,(S i).h] 228);have s:=qo a (zd (Ji _ wr) (.cells #[(S i).e,(S i).H,(S i).z,(S i).h] 228));clear h0 h1 h2 h3;go_upto_region 12 with fail;generalize hW:wr.alloc _=W at o r z s ⊢;clear hW;have P:=zD o;have y:=s.lt;have b0:=hI s;have z0:∀ g:zy W,g.val.cell? _=some (.int _ _):=λg=>(g.o.cell P).trans (zf o 0 _ rfl)
       have z1:∀ g:zy W,g.val.cell? _=some (.int _ _):=λg=>(g.o.cell P).trans (zf o 1 _ rfl)
       have z2:∀ g:zy W,g.val.cell? _=some (.int _ _):=λg=>(g.o.cell P).trans (zf o 2 _ rfl)
       have z3:∀ g:zy W,g.val.cell? _=some (.bool _):=λg=>(g.o.cell P).trans (zf o 3 _ rfl)
       have y0:∀ g:zy W,_:=λg=>(g.o.cell y).trans (s.cell (i:=0) (by omega))
       have y1:∀ g:zy W,_:=λg=>(g.o.cell y).trans (s.cell (i:=1) (by omega))
       have y2:∀ g:zy W,_:=λg=>(g.o.cell y).trans (s.cell (i:=2) (by omega))
       have y3:∀ g:zy W,_:=λg=>(g.o.cell y).trans (s.cell (i:=3) (by omega))
       have y4:∀ g:zy W,_:=λg=>(g.o.cell y).trans (s.cell (i:=4) (by omega))
       have y5:∀ g:zy W,_:=λg=>(g.o.cell y).trans (s.cell (i:=5) (by omega))
       have i1:(0:Int)<=(i:Int):=by omega
       have i2:(i:Int)<=(c:Int):=by omega
       clear c0 c1 c2 c3 o a A d s
       by_cases g1:In (S i).e 1 9999
       ·have e1:=Jd g1
        have H1:=hI g1;clear g1
        by_cases hh:Qh (Zl S) i (S i).e
        ·have e2:=Jd ((QK _ _ _).2 hh)
         have HH:=hI hh;clear hh;refine ze (by kernel_rfl) (by kernel_rfl) ?_
         repeat(first|go_big_quiet_skip|(go_big_quiet_want;go_big_quiet_op;first|go_big_quiet_on|(apply Jg;refine⟨λg=>?_,?_⟩;(focus(first|(go_at_call 102;refine zr (v:=.bool true) ((Z5 _ _).mono ?_);rintro e V ⟨rfl,rfl⟩;exact⟨by rw[e1],bZ⟩)|(go_at_call 244;refine zr (v:=int i64 (Zt (Zl S) (S i).e i)) ((QY _ i c S _ _ (by omega) ((HZ.j9 (by omega)).j0 (zb r g.o))).mono ?_);rintro e V ⟨rfl,u⟩;exact⟨rfl,u⟩)));go_big_quiet_on)))
         refine Jl ?_;rintro _ ⟨g,rfl⟩;have L:=za z g.o;obtain⟨o0,o1,o2,o3,o4,o5⟩:=Rz L;obtain⟨f0,f1,f2,f3,f4,f5⟩:=nh L;go_wp2;have K:=FA L () () () () () ();obtain⟨D,E,F,H,I,J⟩:=Rz K;exact Jj (by simp[results,results237,go_sem,D,E,F,H,I,J,af]) rfl ⟨.inr ⟨λh=>(h.2.2 i hlt2).2.1 HH,rfl⟩,CR (zb r g.o) (Jr _) _ _ _ _ _ _⟩
        ·have e2:=Jc (λh=>hh ((QK _ _ _).1 h))
         have HH:=hI hh;clear hh
         by_cases hfit:Bh p (ZK p S i) (S i)
         ·have M:=hI hfit
          clear hfit;refine ze (by kernel_rfl) (by kernel_rfl) ?_
          repeat(first|go_big_quiet_skip|(go_big_quiet_want;go_big_quiet_op;first|go_big_quiet_on|(apply Jg;refine⟨λg=>?_,?_⟩;(focus(first|(go_at_call 102;refine zr (v:=.bool true) ((Z5 _ _).mono ?_);rintro e V ⟨rfl,rfl⟩;exact⟨by rw[e1],bZ⟩)|(go_at_call 244;refine zr (v:=int i64 (Zt (Zl S) (S i).e i)) ((QY _ i c S _ _ (by omega) ((HZ.j9 (by omega)).j0 (zb r g.o))).mono ?_);rintro e V ⟨rfl,u⟩;exact⟨rfl,u⟩)|(go_at_call 265;refine zr (v:=.bool true) ((GJ _ _ mc p _ _ _ _ _ _ X T (HX.j0 (zb r g.o))).mono ?_);rintro e V ⟨⟨bb,rfl,hi⟩,u⟩;obtain rfl:=hi.2 M;exact⟨rfl,u⟩)));go_big_quiet_on)))
          refine Jl ?_;rintro _ ⟨g,rfl⟩;obtain⟨l,hl⟩:∃ l:Nat,(S i).H=l:=⟨(S i).H.toNat,by have:=M.1;unfold In at this;omega⟩
          have a3:l<p.n:=by have:=M.1;unfold In at this;omega
          have a7:=hI hl;have l4:l<6:=by have:=X.out;omega
          have v1:g.val.cell? ⟨wr.heap.size,1,none⟩=some (int i64 (l:Int)):=by rw[z1 g,hl]
          have v2:=z2 g;have R:=qo b0 g.o;have v3:=R.cell l4;have v4:=R.frozen l;have l1:(0:Int)<=(l:Int):=by omega
          have l2:(l:Int)<6:=by omega
          have b8:IntKind.i64.wrap (ZK p S i l - (S i).z)=ZK p S i l - (S i).z:=by
           have st:=IA (n:=i+1) T (λj hj=>by
            by_cases e:j=i
            ·subst e;exact Fg.1 M
            ·exact(HA j (by omega)).2.2)
           have h1:=Eo T (show i<=60 by omega) (st i (by omega)).1 a3
           have h2:=(st _ (Jr _)).1 i (by omega)
           unfold In at h2;rw[Di a3,Jk];omega
          have a8:=hI (za z g.o);have a6:=hI (zb r g.o);have a9:=hI R;clear hl R z0 z1 z2 z3 y0 y1 y2 y3 y4 y5 z r;generalize g.val=G at *;go_upto_region 14 with fail;have a4:Hid ((G.setCell (f,l) (int i64 (ZK p S i l - (S i).z))).drew.rowIs f 323 6 (λj=>int i64 (ZK p S (i+1) j))):=by
           refine(a9.set l _).congr (λj _=>?_)
           rw[← Sg p S i l j a3 a7.out]
           split <;> rfl
          have b6:Hid ((G.setCell ⟨f,l,_⟩ (int i64 (ZK p S i l - (S i).z))).drew.heap[w.heap.size]?=_):=zK (zG a8 _ _ (by omega))
          have b5:Hid (Below _ w (G.setCell (f,l) (int i64 (ZK p S i l - (S i).z))).drew):=(a6.setCell (by show w.heap.size<=f;omega) _).drew
          have b1:Hid (∀ j,j<i+1->In (S j).e 1 9999/\¬ Qh _ j (S j).e/\Bh p _ _):=λj hj=>by
           by_cases e:j=i
           ·subst e;exact⟨H1,HH,Fg.1 M⟩
           ·exact HA j (by omega)
          clear HH M HA a7 a8 a6 a9 b0;go_region
          all_goals (go_wp2;go_roundw)
          all_goals first|(exact⟨_,by omega,by go_num,b1,a4,b6,b5⟩)|(simp[intOf];omega)
         ·have M:=hI hfit
          clear hfit;refine ze (by kernel_rfl) (by kernel_rfl) ?_
          repeat(first|go_big_quiet_skip|(go_big_quiet_want;go_big_quiet_op;first|go_big_quiet_on|(apply Jg;refine⟨λg=>?_,?_⟩;(focus(first|(go_at_call 102;refine zr (v:=.bool true) ((Z5 _ _).mono ?_);rintro e V ⟨rfl,rfl⟩;exact⟨by rw[e1],bZ⟩)|(go_at_call 244;refine zr (v:=int i64 (Zt (Zl S) (S i).e i)) ((QY _ i c S _ _ (by omega) ((HZ.j9 (by omega)).j0 (zb r g.o))).mono ?_);rintro e V ⟨rfl,u⟩;exact⟨rfl,u⟩)|(go_at_call 265;refine zr (v:=.bool false) ((GJ _ _ mc p _ _ _ _ _ _ X T (HX.j0 (zb r g.o))).mono ?_);rintro e V ⟨⟨bb,rfl,hi⟩,u⟩;obtain rfl:=Bool.eq_false_iff.2 (λe=>M (hi.1 e));exact⟨rfl,u⟩)));go_big_quiet_on)))
          refine Jl ?_;rintro _ ⟨g,rfl⟩;have L:=za z g.o;obtain⟨o0,o1,o2,o3,o4,o5⟩:=Rz L;obtain⟨f0,f1,f2,f3,f4,f5⟩:=nh L;go_wp2;have K:=FA L () () () () () ();obtain⟨D,E,F,H,I,J⟩:=Rz K;exact Jj (by simp[results,results237,go_sem,D,E,F,H,I,J,af]) rfl ⟨.inr ⟨λh=>M (Fg.2 (h.2.2 i hlt2).2.2),rfl⟩,CR (zb r g.o) (Jr _) _ _ _ _ _ _⟩
       ·have e1:=Jc g1
        have H1:=hI g1;clear g1;refine ze (by kernel_rfl) (by kernel_rfl) ?_
        repeat(first|go_big_quiet_skip|(go_big_quiet_want;go_big_quiet_op;first|go_big_quiet_on|(apply Jg;refine⟨λg=>?_,?_⟩;(focus(first|(go_at_call 102;refine zr (v:=.bool false) ((Z5 _ _).mono ?_);rintro e V ⟨rfl,rfl⟩;exact⟨by rw[e1],bZ⟩)));go_big_quiet_on)))
        refine Jl ?_;rintro _ ⟨g,rfl⟩;have L:=za z g.o;obtain⟨o0,o1,o2,o3,o4,o5⟩:=Rz L;obtain⟨f0,f1,f2,f3,f4,f5⟩:=nh L;go_wp2;have K:=FA L () () () () () ();obtain⟨D,E,F,H,I,J⟩:=Rz K;exact Jj (by simp[results,results237,go_sem,D,E,F,H,I,J,af]) rfl ⟨.inr ⟨λh=>H1 (h.2.2 i hlt2).1,rfl⟩,CR (zb r g.o) (Jr _) _ _ _ _ _ _⟩
      ·obtain rfl:i=n:=by omega
       obtain⟨o0,o1,o2,o3,o4,o5⟩:=Rz A;obtain⟨f0,f1,f2,f3,f4,f5⟩:=nh A;have c0:=a.cell (i:=0) (by omega)
       have c1:=a.cell (i:=1) (by omega)
       have c2:=a.cell (i:=2) (by omega)
       have c3:=a.cell (i:=3) (by omega)
       have c4:=a.cell (i:=4) (by omega)
       have c5:=a.cell (i:=5) (by omega)
       go_wp2;have K:=FA A (ZK p S i 0) (ZK p S i 1) (ZK p S i 2) (ZK p S i 3) (ZK p S i 4) (ZK p S i 5);obtain⟨D,E,F,H,I,J⟩:=Rz K;exact Jj (by simp[results,results237,go_sem,D,E,F,H,I,J,af]) rfl ⟨.inl ⟨⟨T,h60,HA⟩,rfl⟩,CR d (Jr _) _ _ _ _ _ _⟩
  ·have d0:decide (60<n)=true:=by simp;omega
   obtain⟨o0,o1,o2,o3,o4,o5⟩:=Rz Q;obtain⟨f0,f1,f2,f3,f4,f5⟩:=nh Q;go_wp2;have K:=FA Q () () () () () ();obtain⟨D,E,F,H,I,J⟩:=Rz K;exact Jj (by simp[results,results237,go_sem,D,E,F,H,I,J,af]) rfl ⟨.inr ⟨λh=>h60 h.2.1,rfl⟩,CR N (Jr _) _ _ _ _ _ _⟩
section
attribute [local go_sem ↓] Go.wp_at_zero Go.wp_at_succ
def oq (p:zv)(n:Nat)(S:Nat->zU)(x:Int):Prop:=QF p n S/\¬ Qh (Zl S) n x/\In x 1 9999
def Sp (p:zv)(n:Nat)(S:Nat->zU)(cl q:Int)(j:Nat):Prop:=p.A j=cl/\(qZ p S n j=p.B j/\q<=p.B j)
def mp (w':World)(base t:Nat)(p:zv)(n:Nat)(S:Nat->zU)(x cl q:Int)(e:Ending):Prop :=
 (∃ k v,oq p n S x/\ZC p.n (Sp p n S cl q) k/\e=.returned (.tuple #[v,(k:Int),.bool true])/\w'.ownsRow base t 4 v (n+1) (zF (Zu S n (λ_=>⟨x,(k:Int),p.B k,true⟩)) (n+1))) ∨
 ((∀ k,¬ (oq p n S x/\ZC p.n (Sp p n S cl q) k))/\e=.returned (.tuple #[True,(),.bool false]))
theorem ot (h:w.heap[g]?=some (.cells #[u0,u1,u2,u3] t (0,0)))(v0 v1 v2 v3:Value) :
  ((((w.setCell (g,0) v0).setCell (g,1) v1).setCell (g,2) v2).setCell (g,3) v3).heap[g]?=some (.cells #[v0,v1,v2,v3] t (0,0)):=by
 have:=zk (zk (zk (zk h 0 v0) 1 v1) 2 v2) 3 v3
 simpa using this
theorem ou {F:Nat->Int}(h:w.heap[g]?=some (.cells #[(F 0),(F 1),(F 2),(F 3),(F 4),(F 5)] t (0,0))):w.rowIs g t 6 (λk=>int i64 (F k)):=by
 refine⟨_,h,rfl,λi hi=>?_⟩
 have:i=0∨i=1∨i=2∨i=3∨i=4∨i=5:=oM
 rcases this with rfl|rfl|rfl|rfl|rfl|rfl <;> rfl
theorem Sq (ao bo:Option Addr)(m mc n c:Nat)(p:zv)(S:Nat->zU)(x cl q:Int)(w:World)(hl:p.n=m)(hm:m<=1048576)(hn:n<=1048576)(hc:n<=c)(hx:zJ w ao p)(hz:qn w bo n S)(F:bo=none->n=0/\c=0) :
  Calls prog 295 #[(ao,m,mc),(bo,n,c),x,cl,.iface 379 (.agg #[q])] w λe w'=>mp w' w.heap.size 228 p n S x cl q e/\Below w w w':=by
 have M:=hI hl;have HX:=hI hx;have Y:=hI hz;have a0:=hI F;clear hl hx hz F;have b2:∀ (fn) (first cap) (w),(Instr.makeFunc fn _ cap).run prog w=.ok (.func fn first cap) w:=λ_ _ _ _=>rfl
 have k1:=nilW;have k3:=methW;go_enter func295,ntmps295;go_wp2_with fail;refine(BQ ao bo m mc n c p S _ M hm hn hc HX Y).mono ?_;rintro e w1 ⟨Q,l⟩
 rcases Q with⟨U,rfl⟩|⟨T,rfl⟩
 ·have X:=hI (CP.1 U)
  clear U;unfold af;have b1:m<=6:=by rw[← M.out];exact X.1.1
  by_cases g1:In x 1 9999
  ·have e1:=Jd g1
   have H1:=hI g1;clear g1
   by_cases g2:Qh (Zl S) n x
   ·have e2:=Jd ((QK _ _ _).2 g2)
    have H2:=hI g2;clear g2;go_wp2_with (first|(go_at_call 102;refine bM (Z5 _ _) λw' a=>?_;have a:=a.symm;subst a)|(go_at_call 244;refine bM (QY bo n c S x _ hn (Y.j0 (zd l _))) λw2 s=>?_))
    exact Jj (by simp[results,results295,go_sem]) rfl ⟨.inr ⟨λk h=>h.1.2.1 H2,rfl⟩,zb (zd l _) s⟩
   ·have e2:=Jc (λh=>g2 ((QK _ _ _).1 h))
    have H2:=hI g2;clear g2;have C:Hid ((w1.alloc _).rowIs _ 323 6 (λk=>.int _ (ZK p S n k))):=ou (Jb w1 _)
    have H:Hid (Below _ w (w1.alloc (.cells #[(ZK p S n 0),(ZK p S n 1),(ZK p S n 2),(ZK p S n 3),(ZK p S n 4),(ZK p S n 5)] 323))):=zd l _;have a2:=l.size;go_upto_region 4 with(first|(go_at_call 102;refine bM (Z5 _ _) λw' a=>?_;have a:=a.symm;subst a)|(go_at_call 244;refine bM (QY bo n c S x _ hn (Y.j0 H)) λw2 s=>?_))
    have o:=qo C s;have E:=zb H s;generalize w1.heap.size=f at a2 o ⊢;clear C H s l e1 e2;go_wp2;go_loopw [15,16,17,18,40] (λ_ _ _ _ i wr=>∃ k,k<=m/\i=int i64 k/\(∀ j,j<k->¬ Sp p n S cl q j)/\wr.rowIs f 323 6 (λj=>int i64 (ZK p S n j))/\Below w w wr) (λ_ _ _ _ i _=>m - (intOf i).toNat)
    case atStart=>exact⟨0,Jq _,rfl,λj hj=>by omega,o,E⟩
    case round =>
     obtain⟨k,hk,rfl,D,G,g⟩:=hrel;have V:=hI D;clear D o E
     by_cases hlt:k<m
     ·obtain⟨b,off,rfl,h1,h2⟩:=HX k (by rw[M.out];exact hlt)
      have hb:=Ja w _ h1;have c1:=tR g h1 hb;have c2:=tR g h2 hb;have Z:=Jb wr (.cells #[(p.A k),(p.B k)] 231);have z:=zd g (.cells #[(p.A k),(p.B k)] 231);have A:=qo G (zd (Ji _ wr) (.cells #[(p.A k),(p.B k)] 231));clear h1 h2;go_upto_region 7 with fail;generalize hW:wr.alloc _=W at Z z A ⊢;clear hW;have b3:=zD Z;have a9:=A.lt;have b4:=z.size;have O:=hI Z;have K:=hI A;have J:=hI z;generalize wr.heap.size=cb at *;have i1:=n0 k;have i3:(k:Int)<6:=oM;have y:Hid (∀ w',Below _ W w'->(w'.cell? _=some (.int _ _)/\w'.cell? _=some (.int _ _)/\w'.cell? _=_)):=λw' h=>⟨bC (za O h) 0,bC (za O h) 1,by
       have:=(qo K h).cell (i:=k) oM;rw[this,Di (by rw[M.out];exact hlt)]⟩
      obtain⟨fb,L⟩:=nM (decide (qZ p S n k=p.B k/\q<=p.B k));have P:=hI L;have R:Hid (∀ w0,Calls _ 336 #[_,.agg #[.int _ (p.A k),_],_] w0 λe w'=>e=.returned (.tuple #[_,fb])/\_):=λw0=>by rw[L];exact IF _ _ _ _ w0
      clear c1 c2 Z z A G g L;go_cut [17,18] (λa5 a6 wc=>∃ B,a5=.pointer (some (B,0))/\a6=.bool fb/\wc.heap[B]?=some (.cells #[(),(),(p.B k),.bool true] 228 (0,0))/\W.heap.size<=B/\Below W W wc)
      case first =>
       go_region_held3 (λw'=>w'.cell? (cb,0)=some (p.A k)/\w'.cell? (cb,1)=some (p.B k)/\w'.cell? (f,k)=some (qZ p S n k))
        ((refine y _ ?_;(repeat(first|exact bZ|refine Jh ?_|refine zd ?_ _|refine Mj ?_ oM _|refine zb ?_ t))))
        (first|(go_at_call 336;refine Jm (R _) ?_;rintro e w4 ⟨rfl,t⟩;have s4:W.heap.size<=w4.heap.size:=(by have:=t.size;first|omega|(simp at this;omega));(first|(have d:w4.heap[W.heap.size]?=_:=za (Jb W.drew (.cells _ 228)) t;have y0:=bC d 0;have y1:=bC d 1;have y2:=bC d 2;have y3:=bC d 3;have f0:=zc d 0;have f1:=zc d 1;have f2:=zc d 2;have f3:=zc d 3)|skip)))
       all_goals
        go_wp2;go_meet
        first|exact⟨_,rfl,rfl,Jb w4 _,s4,(by(repeat(first|exact bZ|refine Jh ?_|refine zd ?_ _|refine Mj ?_ oM _|refine zb ?_ t)))⟩|exact⟨_,rfl,rfl,ot d _ _ _ _,Jr _,(by(repeat(first|exact bZ|refine Jh ?_|refine zd ?_ _|refine Mj ?_ oM _|refine zb ?_ t)))⟩
      case rest =>
      obtain⟨B,rfl,rfl,u,a7,r⟩:=hcut;have a8:=(y _ r).1
      by_cases g3:p.A k=cl
      ·have e3:(p.A k == cl)=true:=by simpa using g3
       have H3:=hI g3;clear g3
       cases fb with
       |true =>
        have h4:=Js P.symm;have N:=hI h4;clear h4;obtain⟨o0,o1,o2,o3⟩:=Qk u;have f0:=zc u 0;have f1:=zc u 1;have I:Hid (Below _ w ((wc.setCell (B,0) x).setCell (B,1) (k:Int))):=((zb J r).setCell (by show w.heap.size<=B;omega) _).setCell (by show w.heap.size<=B;omega) _
        go_wp2_with (first|(go_at_call 298;refine Jm (IH bo n c S ⟨x,(k:Int),p.B k,_⟩ _ hn (Y.j0 I) a0) ?_;rintro e w5 ⟨⟨v,rfl,a3⟩,a1⟩))
        have a4:=I.size;exact Jj (by simp[results,results295,go_sem]) rfl ⟨.inl ⟨k,v,⟨X,H2,H1⟩,⟨by rw[M.out];exact hlt,⟨H3,N⟩,V⟩,rfl,zo a3 a4⟩,zb I a1⟩
       |false =>
        have N:Hid (¬ Sp p n S cl q k):=λh=>of_decide_eq_false P.symm h.2
        go_wp2;go_roundw
        case rel=>exact⟨k+1,by omega,by go_num,λj hj=>by
         by_cases e:j=k
         ·subst e;exact N
         ·exact V j oM,qo K r,zb J r⟩
        case measure=>simp[intOf];omega
      ·have e3:(p.A k == cl)=false:=by simpa using g3
       have N:Hid (¬ Sp p n S cl q k):=λh=>g3 h.1
       clear g3;go_wp2;go_roundw
       case rel=>exact⟨k+1,by omega,by go_num,λj hj=>by
        by_cases e:j=k
        ·subst e;exact N
        ·exact V j oM,qo K r,zb J r⟩
       case measure=>simp[intOf];omega
     ·obtain rfl:k=m:=by omega
      go_wp2;exact Jj (by simp[results,results295,go_sem]) rfl ⟨.inr ⟨λj h=>V j (by have:=h.2.1;rw[M.out] at this;exact this) h.2.2.1,rfl⟩,g⟩
  ·have e1:=Jc g1
   have H1:=hI g1;clear g1;go_wp2_with (first|(go_at_call 102;refine bM (Z5 _ _) λw' a=>?_;have a:=a.symm;subst a))
   exact Jj (by simp[results,results295,go_sem]) rfl ⟨.inr ⟨λk h=>H1 h.1.2.2,rfl⟩,zd l _⟩
 ·have X:Hid (¬ _):=λh=>T (CP.2 h)
  clear T;unfold af;go_wp2;exact Jj (by simp[results,results295,go_sem]) rfl ⟨.inr ⟨λk h=>X h.1.1,rfl⟩,zd l _⟩
end
section
attribute [local go_sem ↓] Go.wp_at_zero Go.wp_at_succ
def ov (p:zv)(n:Nat)(S:Nat->zU)(x:Int):Prop:=QF p n S/\¬ Qh (Zl S) n x/\In x 1 9999
def Sr (p:zv)(n:Nat)(S:Nat->zU)(cl q:Int)(j:Nat):Prop:=p.A j=cl/\(In q 1 (qZ p S n j))
def mq (w':World)(base t:Nat)(p:zv)(n:Nat)(S:Nat->zU)(x cl q:Int)(e:Ending):Prop :=
 (∃ k v,ov p n S x/\ZC p.n (Sr p n S cl q) k/\e=.returned (.tuple #[v,(k:Int),.bool true])/\w'.ownsRow base t 4 v (n+1) (zF (Zu S n (λ_=>⟨x,(k:Int),q,false⟩)) (n+1))) ∨
 ((∀ k,¬ (ov p n S x/\ZC p.n (Sr p n S cl q) k))/\e=.returned (.tuple #[True,(),.bool false]))
theorem ow (h:w.heap[g]?=some (.cells #[u0,u1,u2,u3] t (0,0)))(v0 v1 v2 v3:Value) :
  ((((w.setCell (g,0) v0).setCell (g,1) v1).setCell (g,2) v2).setCell (g,3) v3).heap[g]?=some (.cells #[v0,v1,v2,v3] t (0,0)):=by
 have:=zk (zk (zk (zk h 0 v0) 1 v1) 2 v2) 3 v3
 simpa using this
theorem oz {F:Nat->Int}(h:w.heap[g]?=some (.cells #[(F 0),(F 1),(F 2),(F 3),(F 4),(F 5)] t (0,0))):w.rowIs g t 6 (λk=>int i64 (F k)):=by
 refine⟨_,h,rfl,λi hi=>?_⟩
 have:i=0∨i=1∨i=2∨i=3∨i=4∨i=5:=oM
 rcases this with rfl|rfl|rfl|rfl|rfl|rfl <;> rfl
theorem Ss (ao bo:Option Addr)(m mc n c:Nat)(p:zv)(S:Nat->zU)(x cl q:Int)(w:World)(hl:p.n=m)(hm:m<=1048576)(hn:n<=1048576)(hc:n<=c)(hx:zJ w ao p)(hz:qn w bo n S)(F:bo=none->n=0/\c=0) :
  Calls prog 295 #[(ao,m,mc),(bo,n,c),x,cl,.iface 381 (.agg #[q])] w λe w'=>mq w' w.heap.size 228 p n S x cl q e/\Below w w w':=by
 have M:=hI hl;have HX:=hI hx;have Y:=hI hz;have a0:=hI F;clear hl hx hz F;have b2:∀ (fn) (first cap) (w),(Instr.makeFunc fn _ cap).run prog w=.ok (.func fn first cap) w:=λ_ _ _ _=>rfl
 have k1:=nilB;have k3:=methB;go_enter func295,ntmps295;go_wp2_with fail;refine(BQ ao bo m mc n c p S _ M hm hn hc HX Y).mono ?_;rintro e w1 ⟨Q,l⟩
 rcases Q with⟨U,rfl⟩|⟨T,rfl⟩
 ·have X:=hI (CP.1 U)
  clear U;unfold af;have b1:m<=6:=by rw[← M.out];exact X.1.1
  by_cases g1:In x 1 9999
  ·have e1:=Jd g1
   have H1:=hI g1;clear g1
   by_cases g2:Qh (Zl S) n x
   ·have e2:=Jd ((QK _ _ _).2 g2)
    have H2:=hI g2;clear g2;go_wp2_with (first|(go_at_call 102;refine bM (Z5 _ _) λw' a=>?_;have a:=a.symm;subst a)|(go_at_call 244;refine bM (QY bo n c S x _ hn (Y.j0 (zd l _))) λw2 s=>?_))
    exact Jj (by simp[results,results295,go_sem]) rfl ⟨.inr ⟨λk h=>h.1.2.1 H2,rfl⟩,zb (zd l _) s⟩
   ·have e2:=Jc (λh=>g2 ((QK _ _ _).1 h))
    have H2:=hI g2;clear g2;have C:Hid ((w1.alloc _).rowIs _ 323 6 (λk=>.int _ (ZK p S n k))):=oz (Jb w1 _)
    have H:Hid (Below _ w (w1.alloc (.cells #[(ZK p S n 0),(ZK p S n 1),(ZK p S n 2),(ZK p S n 3),(ZK p S n 4),(ZK p S n 5)] 323))):=zd l _;have a2:=l.size;go_upto_region 4 with(first|(go_at_call 102;refine bM (Z5 _ _) λw' a=>?_;have a:=a.symm;subst a)|(go_at_call 244;refine bM (QY bo n c S x _ hn (Y.j0 H)) λw2 s=>?_))
    have o:=qo C s;have E:=zb H s;generalize w1.heap.size=f at a2 o ⊢;clear C H s l e1 e2;go_wp2;go_loopw [15,16,17,18,40] (λ_ _ _ _ i wr=>∃ k,k<=m/\i=int i64 k/\(∀ j,j<k->¬ Sr p n S cl q j)/\wr.rowIs f 323 6 (λj=>int i64 (ZK p S n j))/\Below w w wr) (λ_ _ _ _ i _=>m - (intOf i).toNat)
    case atStart=>exact⟨0,Jq _,rfl,λj hj=>by omega,o,E⟩
    case round =>
     obtain⟨k,hk,rfl,D,G,g⟩:=hrel;have V:=hI D;clear D o E
     by_cases hlt:k<m
     ·obtain⟨b,off,rfl,h1,h2⟩:=HX k (by rw[M.out];exact hlt)
      have hb:=Ja w _ h1;have c1:=tR g h1 hb;have c2:=tR g h2 hb;have Z:=Jb wr (.cells #[(p.A k),(p.B k)] 231);have z:=zd g (.cells #[(p.A k),(p.B k)] 231);have A:=qo G (zd (Ji _ wr) (.cells #[(p.A k),(p.B k)] 231));clear h1 h2;go_upto_region 7 with fail;generalize hW:wr.alloc _=W at Z z A ⊢;clear hW;have b3:=zD Z;have a9:=A.lt;have b4:=z.size;have O:=hI Z;have K:=hI A;have J:=hI z;generalize wr.heap.size=cb at *;have i1:=n0 k;have i3:(k:Int)<6:=oM;have y:Hid (∀ w',Below _ W w'->(w'.cell? _=some (.int _ _)/\w'.cell? _=some (.int _ _)/\w'.cell? _=_)):=λw' h=>⟨bC (za O h) 0,bC (za O h) 1,by
       have:=(qo K h).cell (i:=k) oM;rw[this,Di (by rw[M.out];exact hlt)]⟩
      obtain⟨fb,L⟩:=nM (decide (In q 1 (qZ p S n k)));have P:=hI L;have R:Hid (∀ w0,Calls _ 337 #[_,.agg #[.int _ (p.A k),.int _ (p.B k)],_] w0 λe w'=>e=.returned (.tuple #[_,fb])/\_):=λw0=>by rw[L];exact IE _ _ _ _ w0
      clear c1 c2 Z z A G g L;go_cut [17,18] (λa5 a6 wc=>∃ B,a5=.pointer (some (B,0))/\a6=.bool fb/\wc.heap[B]?=some (.cells #[(),(),(q),.bool false] 228 (0,0))/\W.heap.size<=B/\Below W W wc)
      case first =>
       go_region_held3 (λw'=>w'.cell? (cb,0)=some (p.A k)/\w'.cell? (cb,1)=some (p.B k)/\w'.cell? (f,k)=some (qZ p S n k))
        ((refine y _ ?_;(repeat(first|exact bZ|refine Jh ?_|refine zd ?_ _|refine Mj ?_ oM _|refine zb ?_ t))))
        (first|(go_at_call 337;refine Jm (R _) ?_;rintro e w4 ⟨rfl,t⟩;have s4:W.heap.size<=w4.heap.size:=(by have:=t.size;first|omega|(simp at this;omega));(first|(have d:w4.heap[W.heap.size]?=_:=za (Jb W.drew (.cells _ 228)) t;have y0:=bC d 0;have y1:=bC d 1;have y2:=bC d 2;have y3:=bC d 3;have f0:=zc d 0;have f1:=zc d 1;have f2:=zc d 2;have f3:=zc d 3)|skip)))
       all_goals
        go_wp2;go_meet
        first|exact⟨_,rfl,rfl,Jb w4 _,s4,(by(repeat(first|exact bZ|refine Jh ?_|refine zd ?_ _|refine Mj ?_ oM _|refine zb ?_ t)))⟩|exact⟨_,rfl,rfl,ow d _ _ _ _,Jr _,(by(repeat(first|exact bZ|refine Jh ?_|refine zd ?_ _|refine Mj ?_ oM _|refine zb ?_ t)))⟩
      case rest =>
      obtain⟨B,rfl,rfl,u,a7,r⟩:=hcut;have a8:=(y _ r).1
      by_cases g3:p.A k=cl
      ·have e3:(p.A k == cl)=true:=by simpa using g3
       have H3:=hI g3;clear g3
       cases fb with
       |true =>
        have h4:=Js P.symm;have N:=hI h4;clear h4;obtain⟨o0,o1,o2,o3⟩:=Qk u;have f0:=zc u 0;have f1:=zc u 1;have I:Hid (Below _ w ((wc.setCell (B,0) x).setCell (B,1) (k:Int))):=((zb J r).setCell (by show w.heap.size<=B;omega) _).setCell (by show w.heap.size<=B;omega) _
        go_wp2_with (first|(go_at_call 298;refine Jm (IH bo n c S ⟨x,(k:Int),q,_⟩ _ hn (Y.j0 I) a0) ?_;rintro e w5 ⟨⟨v,rfl,a3⟩,a1⟩))
        have a4:=I.size;exact Jj (by simp[results,results295,go_sem]) rfl ⟨.inl ⟨k,v,⟨X,H2,H1⟩,⟨by rw[M.out];exact hlt,⟨H3,N⟩,V⟩,rfl,zo a3 a4⟩,zb I a1⟩
       |false =>
        have N:Hid (¬ Sr p n S cl q k):=λh=>of_decide_eq_false P.symm h.2
        go_wp2;go_roundw
        case rel=>exact⟨k+1,by omega,by go_num,λj hj=>by
         by_cases e:j=k
         ·subst e;exact N
         ·exact V j oM,qo K r,zb J r⟩
        case measure=>simp[intOf];omega
      ·have e3:(p.A k == cl)=false:=by simpa using g3
       have N:Hid (¬ Sr p n S cl q k):=λh=>g3 h.1
       clear g3;go_wp2;go_roundw
       case rel=>exact⟨k+1,by omega,by go_num,λj hj=>by
        by_cases e:j=k
        ·subst e;exact N
        ·exact V j oM,qo K r,zb J r⟩
       case measure=>simp[intOf];omega
     ·obtain rfl:k=m:=by omega
      go_wp2;exact Jj (by simp[results,results295,go_sem]) rfl ⟨.inr ⟨λj h=>V j (by have:=h.2.1;rw[M.out] at this;exact this) h.2.2.1,rfl⟩,g⟩
  ·have e1:=Jc g1
   have H1:=hI g1;clear g1;go_wp2_with (first|(go_at_call 102;refine bM (Z5 _ _) λw' a=>?_;have a:=a.symm;subst a))
   exact Jj (by simp[results,results295,go_sem]) rfl ⟨.inr ⟨λk h=>H1 h.1.2.2,rfl⟩,zd l _⟩
 ·have X:Hid (¬ _):=λh=>T (CP.2 h)
  clear T;unfold af;go_wp2;exact Jj (by simp[results,results295,go_sem]) rfl ⟨.inr ⟨λk h=>X h.1.1,rfl⟩,zd l _⟩
end
end Go.Proofs.YtmdnjgihooflfaaGreatDoor
