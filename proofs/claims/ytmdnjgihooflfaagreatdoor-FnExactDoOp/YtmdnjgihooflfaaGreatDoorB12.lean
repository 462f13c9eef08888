/-
  OWN TEXT: WorkI, FreeW, SettC, SettD, PlainP, PlainWo, PlainCv.
-/
import Derived.Great.Walk
import Derived.Test.YtmdnjgihooflfaaGreatDoorB11
namespace Go.Proofs.YtmdnjgihooflfaaGreatDoor
open Go.RowKit
open Go.Value (int)
open Go.IntKind (i64)
set_option maxHeartbeats 64000000
set_option maxRecDepth 100000
def wkI (k:Wk):List Value:=[int i64 k.leg,int i64 (k.res:Int),int i64 k.who,int i64 k.p.pe,int i64 k.p.len,int i64 k.p.hei,int i64 k.p.cl,.bool k.p.all,int i64 k.p.be,.bool k.goes]
def zgF (l:List Wk):List Value:=l.flatMap wkI
theorem wkRI_snoc (l:List Wk)(k:Wk):zgF (l++[k])=zgF l++wkI k:=by simp[zgF]
theorem wkRI_app (l m:List Wk):zgF (l++m)=zgF l++zgF m:=by simp[zgF]
theorem zmE (l:List Wk):(zgF l).length=l.length*10:=by
 induction l with
 | nil=>rfl
 | cons a l ih=>show(wkI a++zgF l).length=_;rw[List.length_append,ih,List.length_cons];show 10+_=_;omega
theorem zmF (l:List Wk):∀ u ∈ zgF l,u.oneCell'=true:=by
 intro u a;obtain⟨k,_,h⟩:=List.mem_flatMap.1 a;simp only[wkI,List.mem_cons,List.not_mem_nil,or_false] at h
 rcases h with rfl|rfl|rfl|rfl|rfl|rfl|rfl|rfl|rfl|rfl <;> rfl
theorem Tryz.infoWorkI:(Tryz.prog.info? 268).map (fun i=>(i.zero,i.size,i.bytes))=some (some (.agg #[int i64 0,int i64 0,int i64 0,int i64 0,int i64 0,int i64 0,int i64 0,.bool false,int i64 0,.bool false]),10,80):=by kernel_rfl
theorem Tryz.sizeWorkI:(Tryz.prog.info? 268).map (·.size)=some 10:=by kernel_rfl
theorem builtWork (a b who pe len hei cl be:Int)(all goes:Bool) :
  Tryz.prog.builtSlice 268 1 [(0,.agg #[int i64 a,int i64 b,int i64 who,int i64 pe,int i64 len,int i64 hei,int i64 cl,.bool all,int i64 be,.bool goes])]=some #[int i64 a,int i64 b,int i64 who,int i64 pe,int i64 len,int i64 hei,int i64 cl,.bool all,int i64 be,.bool goes]:=by kernel_rfl
def resN (a b:Bool):List Nat:=(if a=true then [0] else [])++(if b=true then [1] else [])++[2]
theorem resN_len (a b:Bool):(resN a b).length=(resL a b).length:=by cases a <;> cases b <;> rfl
theorem resN_at (a b:Bool)(k:Nat)(c:k<(resN a b).length):(resL a b)[k]?=some (int i64 (((resN a b)[k]:Nat):Int)):=by
 cases a <;> cases b <;> simp only[resN,resL] at c ⊢ <;> simp at c
 ·have:k=0:=by omega
  subst this;rfl
 ·have:k=0∨k=1:=by omega
  rcases this with rfl|rfl <;> rfl
 ·have:k=0∨k=1:=by omega
  rcases this with rfl|rfl <;> rfl
 ·have:k=0∨k=1∨k=2:=by omega
  rcases this with rfl|rfl|rfl <;> rfl
def FitP (p:Qh):Prop:=carP p=zaI p.len p.cl 0/\cabP p=zaI p.len p.cl 1
theorem leg_res {goes:Bool}{who:Int}{p:Qh}{leg:Int}(h:FitP p):Zd goes who p leg 3=(resN (carP p) (cabP p)).map (fun r=>⟨leg,r,goes,who,p⟩):=by
 have h2:zaI p.len p.cl 2=true:=rfl;rw[h.1,h.2];unfold Zd;rw[if_pos h2];unfold Zd
 cases h1:zaI p.len p.cl 1 <;> cases h0:zaI p.len p.cl 0 <;> simp[Zd,h0,resN]
theorem zkj {p:Qh}(h:qI p):FitP p:=by
 refine⟨?_,?_⟩
 ·unfold carP zaI
  rw[if_neg (by decide),if_pos rfl,decide_eq_decide]
  rcases h.2.1 with⟨h1,h2⟩|h1
  ·simp[h1,h2]
  ·unfold zbA In at h1
   constructor <;> intro _ <;> omega
 ·unfold cabP zaI
  rw[if_neg (by decide),if_neg (by decide),decide_eq_decide]
  rcases h.2.2 with⟨h1,h2,h3⟩|h1
  ·simp[h1,h2,h3]
  ·unfold zfN In at h1
   constructor
   ·intro _;omega
   ·rintro _ ⟨h2,_⟩;omega
theorem zgG (ao:Option Addr)(n c:Nat)(F:Nat->Int)(who:Int)(p:Qh)(goes:Bool)(w:World)(hn:n<=3)(hp:FitP p)(hx:zT w ao n F) :
  Calls Tryz.prog 200 #[.slice ao n c,.agg #[int i64 0,int i64 0,int i64 who,int i64 p.pe,int i64 p.len,int i64 p.hei,int i64 p.cl,.bool p.all,int i64 p.be,.bool goes]] w fun e w'=>(∃ v,e=.returned v/\w'.ownsRow w.heap.size 268 10 v (Zh goes who p F n).length (zgF (Zh goes who p F n)))/\Below w.heap.size w w':=by
 obtain⟨j0,ji,a9,b0,b1⟩:=info_parts Tryz.infoWorkI;have HX:=hI hx;have HP:=hI hp;clear hx hp;have L:Below w.heap.size w (w.alloc (.cells #[int i64 0,int i64 0,int i64 who,int i64 p.pe,int i64 p.len,int i64 p.hei,int i64 p.cl,.bool p.all,int i64 p.be,.bool goes] 268)):=zk bZ _;have J:=heap_alloc_new w (.cells #[int i64 0,int i64 0,int i64 who,int i64 p.pe,int i64 p.len,int i64 p.hei,int i64 p.cl,.bool p.all,int i64 p.be,.bool goes] 268);have Z:(w.alloc (.cells #[int i64 0,int i64 0,int i64 who,int i64 p.pe,int i64 p.len,int i64 p.hei,int i64 p.cl,.bool p.all,int i64 p.be,.bool goes] 268)).heap.size=w.heap.size+1:=by simp
 go_enter Tryz.func200,Tryz.ntmps200;go_wp2;generalize w.alloc (.cells #[int i64 0,int i64 0,int i64 who,int i64 p.pe,int i64 p.len,int i64 p.hei,int i64 p.cl,.bool p.all,int i64 p.be,.bool goes] 268)=V at L J Z ⊢;go_loopw [5,7,9,12] (fun s5 _ _ q wr=>∃ i:Nat,i<=n/\q=int i64 i/\wr.ownsRow (w.heap.size+1) 268 10 s5 (Zh goes who p F i).length (zgF (Zh goes who p F i))/\(∃ a b,wr.heap[w.heap.size]?=some (.cells #[int i64 a,int i64 b,int i64 who,int i64 p.pe,int i64 p.len,int i64 p.hei,int i64 p.cl,.bool p.all,int i64 p.be,.bool goes] 268 (0,0)))/\Below w.heap.size w wr/\w.heap.size+1<=wr.heap.size) (fun _ _ _ q _=>n - (intOf q).toNat)
 case atStart=>exact⟨0,Nat.zero_le _,rfl,World.ownsRow_nil _ _ _ _,⟨0,0,J⟩,L,by omega⟩
 case round =>
  obtain⟨i,hi,rfl,m,⟨a,b,l⟩,d,h⟩:=hrel;clear L J Z V
  by_cases hlt:i<n
  ·obtain⟨gb,go,rfl,T⟩:=HX.out i hlt
   have cg:=(d.cell (p:=⟨gb,go+i,none⟩) (World.block_lt_of_cell? w _ T)).trans T;have x3:=za l 3 _ rfl;have x4:=za l 4 _ rfl;have x5:=za l 5 _ rfl;have x6:=za l 6 _ rfl;have x7:=za l 7 _ rfl;have x8:=za l 8 _ rfl;go_wp2_with fail;clear x3 x4 x5 x6 x7 x8 cg;refine(ziH p _).mono ?_;rintro e W1 ⟨⟨rv,rfl,f⟩,o⟩;obtain⟨ra,rc,rfl,_,_,_⟩:=zp f;have H:=hI (zu f h);replace m:=zo o m;replace l:=zb l o;replace d:=ze d o;replace h:w.heap.size+1<=W1.heap.size:=Nat.le_trans h o.size;clear o f;obtain⟨rs,E⟩:∃ rs,rs=resN (carP p) (cabP p):=⟨_,rfl⟩;obtain⟨M,R⟩:∃ M,M=(resL (carP p) (cabP p)).length:=⟨_,rfl⟩;have I:Hid (rs=resN (carP p) (cabP p)/\M=rs.length):=⟨E,by rw[R,E,resN_len]⟩
   have P:Hid (∀ k (hk:k<rs.length),(resL (carP p) (cabP p))[k]?=some (int i64 ((rs[k]:Nat):Int))):=by subst E;exact fun k hk=>resN_at _ _ k hk
   have b2:M<=3:=by rw[R];exact resL_le _ _
   obtain⟨xs,N⟩:∃ xs,xs=resL (carP p) (cabP p):=⟨_,rfl⟩;rw[← R,← N] at H;rw[← N] at P;rw[← R];clear E R N;obtain⟨x,y⟩:∃ x,x=Zh goes who p F i:=⟨_,rfl⟩;have a0:Hid (Zh goes who p F (i+1)=x++rs.map (fun r=>(⟨F i,r,goes,who,p⟩:Wk))):=by show _=_;rw[y,I.out.1,← leg_res HP.out];rfl
   have b5:x.length<=9:=by rw[y];have:=QD goes who p F i;omega
   rw[← y] at m;clear y;go_wp2;go_loopw [5,9,20] (fun s5 _ q w5=>∃ k:Nat,k<=M/\q=int i64 k/\w5.ownsRow (w.heap.size+1) 268 10 s5 (x++(rs.take k).map (fun r=>(⟨F i,r,goes,who,p⟩:Wk))).length (zgF (x++(rs.take k).map (fun r=>(⟨F i,r,goes,who,p⟩:Wk))))/\(∃ a b,w5.heap[w.heap.size]?=some (.cells #[int i64 a,int i64 b,int i64 who,int i64 p.pe,int i64 p.len,int i64 p.hei,int i64 p.cl,.bool p.all,int i64 p.be,.bool goes] 268 (0,0)))/\w5.ownsRow (w.heap.size+1) 3 1 (.slice ra M rc) M xs/\Below w.heap.size w w5/\w.heap.size+1<=w5.heap.size) (fun _ _ q _=>M - (intOf q).toNat)
   case atStart=>exact⟨0,Nat.zero_le _,rfl,by simpa using m,⟨a,b,l⟩,H.out,d,h⟩
   case round =>
    clear m l H d h a b;obtain⟨k,hk,rfl,m,⟨a,b,l⟩,f,d,h⟩:=hrel;obtain⟨O,z⟩:∃ O,O=x++(rs.take k).map (fun r=>(⟨F i,r,goes,who,p⟩:Wk)):=⟨_,rfl⟩
    have Q:=hI z;have b6:O.length<=12:=by rw[z,List.length_append,List.length_map,List.length_take];omega
    rw[← z] at m;clear z
    by_cases hlk:k<M
    ·obtain⟨g,a7,b3,b4⟩:=qh f (by omega)
     subst a7;have U:k<rs.length:=by rw[← I.out.2];exact hlk
     obtain⟨r,hr⟩:∃ r,r=rs[k]:=⟨_,rfl⟩;have ck:wr.cell? ⟨g,k,none⟩=some (int i64 (r:Int)):=by rw[f.cellAt k (by omega),P.out k U,hr]
     have a2:Hid (rs.take (k+1)=rs.take k++[r]):=by show _=_;rw[hr,List.take_add_one,List.getElem?_eq_getElem U];rfl
     have y0:=za l 0 _ rfl;have y1:=za l 1 _ rfl;have f0:=zg l 0;have f1:=zg l 1;have C:zx wr ((wr.setCell ⟨w.heap.size,0,none⟩ (int i64 (F i))).setCell ⟨w.heap.size,1,none⟩ (int i64 (r:Int))) (fun b=>b=w.heap.size):=((zx.refl wr (fun b=>b=w.heap.size)).set (a:=⟨w.heap.size,0,none⟩) rfl _).set (a:=⟨w.heap.size,1,none⟩) rfl _
     have K:((wr.setCell ⟨w.heap.size,0,none⟩ (int i64 (F i))).setCell ⟨w.heap.size,1,none⟩ (int i64 (r:Int))).heap[w.heap.size]?=some (.cells #[int i64 (F i),int i64 (r:Int),int i64 who,int i64 p.pe,int i64 p.len,int i64 p.hei,int i64 p.cl,.bool p.all,int i64 p.be,.bool goes] 268 (0,0)):=by simpa using zm (zm l 0 (int i64 (F i))) 1 (int i64 (r:Int))
     have W:=C.own m (fun q h1 h2=>by have h2:q=w.heap.size:=h2;have:=(m.lt q h1).1;omega)
     have s:=C.own f (fun q h1 h2=>by have h2:q=w.heap.size:=h2;have:=(f.lt q h1).1;omega)
     have S:Below w.heap.size w ((wr.setCell ⟨w.heap.size,0,none⟩ (int i64 (F i))).setCell ⟨w.heap.size,1,none⟩ (int i64 (r:Int))):=(d.setCell (p:=⟨w.heap.size,0,none⟩) (Nat.le_refl _) _).setCell (p:=⟨w.heap.size,1,none⟩) (Nat.le_refl _) _;have G:w.heap.size+1<=((wr.setCell ⟨w.heap.size,0,none⟩ (int i64 (F i))).setCell ⟨w.heap.size,1,none⟩ (int i64 (r:Int))).heap.size:=Nat.le_trans h C.size;clear hr C;go_upto_region 9 with fail;generalize (wr.setCell ⟨w.heap.size,0,none⟩ (int i64 (F i))).setCell ⟨w.heap.size,1,none⟩ (int i64 (r:Int))=Y at K W s S G ⊢;clear y0 y1 f0 f1 ck d h l m f;have D:=W.alloc (.cells #[int i64 (F i),int i64 (r:Int),int i64 who,int i64 p.pe,int i64 p.len,int i64 p.hei,int i64 p.cl,.bool p.all,int i64 p.be,.bool goes] 268);have a1:Hid (∀ j u,([int i64 (F i),int i64 (r:Int),int i64 who,int i64 p.pe,int i64 p.len,int i64 p.hei,int i64 p.cl,.bool p.all,int i64 p.be,.bool goes]:List Value)[j]?=some u->(Y.alloc (.cells #[int i64 (F i),int i64 (r:Int),int i64 who,int i64 p.pe,int i64 p.len,int i64 p.hei,int i64 p.cl,.bool p.all,int i64 p.be,.bool goes] 268)).cell? ((⟨Y.heap.size,0,none⟩:Addr).add j)=some u):=World.news_of_block (heap_alloc_new Y _);have t:w.heap.size+1<=(Y.alloc (.cells #[int i64 (F i),int i64 (r:Int),int i64 who,int i64 p.pe,int i64 p.len,int i64 p.hei,int i64 p.cl,.bool p.all,int i64 p.be,.bool goes] 268)).heap.size:=Nat.le_trans G (by simp)
     refine wp_region_lit ?_;refine Go.Great.wpList_runTo rfl _ rfl _ _ (show _=_ from rfl) ?_;refine wpList_load_row rfl _ _ rfl w.heap.size rfl _ _ (0,0) _ K Tryz.underlying268 rfl Tryz.sizeWorkI ?_;refine Go.Great.wpList_buildSliceTo rfl _ _ 1 _ rfl _ rfl _ rfl Tryz.underlying175 #[int i64 (F i),int i64 (r:Int),int i64 who,int i64 p.pe,int i64 p.len,int i64 p.hei,int i64 p.cl,.bool p.all,int i64 p.be,.bool goes] (Eq.trans (congrArg (Program.builtSlice Tryz.prog 268 1) (show _=[(0,Value.agg #[int i64 (F i),int i64 (r:Int),int i64 who,int i64 p.pe,int i64 p.len,int i64 p.hei,int i64 p.cl,.bool p.all,int i64 p.be,.bool goes])] from by first|(simp[go_sem];done)|rfl|kernel_rfl)) (builtWork (F i) (r:Int) who p.pe p.len p.hei p.cl p.be p.all goes)) ?_
     go_wp2_with (first|(at_builtin;refine wpList_append_lies _ (by rfl) (.tmp 28) (.tmp 30) 175 (by rfl) (w.heap.size+1) 268 j0 (.agg #[int i64 0,int i64 0,int i64 0,int i64 0,int i64 0,int i64 0,int i64 0,.bool false,int i64 0,.bool false]) 10 80 Tryz.underlying175 ji a9 b0 b1 rfl (by decide) _ _ _ (by rfl) D ⟨Y.heap.size,0,none⟩ 1 1 [int i64 (F i),int i64 (r:Int),int i64 who,int i64 p.pe,int i64 p.len,int i64 p.hei,int i64 p.cl,.bool p.all,int i64 p.be,.bool goes] (by rfl) (by rfl) a1.out (by intro u hu;simp at hu;rcases hu with rfl|rfl|rfl|rfl|rfl|rfl|rfl|rfl|rfl|rfl <;> rfl) (by decide) (by unfold maxLen;omega) (by omega) t _ rfl ?_;intro g3 a5 w3 a8 B _ _))
     have A:Below Y.heap.size Y (Y.alloc (.cells #[int i64 (F i),int i64 (r:Int),int i64 who,int i64 p.pe,int i64 p.len,int i64 p.hei,int i64 p.cl,.bool p.all,int i64 p.be,.bool goes] 268)):=zk bZ _;have a4:=(qJ B).blk (zb K A) (fun e=>by have:=(D.lt _ e).1;omega)
     have X:=(qJ B).own (zo A s) (fun q h1 h2=>zI D (zo A s) (by decide) q h2 h1)
     have a6:Below w.heap.size w w3:=(ze S A).grown B (Nat.le_trans (Nat.le_succ _) t) (fun j hj=>Nat.le_trans (Nat.le_succ _) (D.lt j hj).1)
     have a3:Hid (w3.ownsRow (w.heap.size+1) 268 10 (.slice (some ⟨g3,0,none⟩) (O.length+1) a5) (x++(rs.take (k+1)).map (fun r=>(⟨F i,r,goes,who,p⟩:Wk))).length (zgF (x++(rs.take (k+1)).map (fun r=>(⟨F i,r,goes,who,p⟩:Wk))))):=by
      have e1:x++(rs.take (k+1)).map (fun r=>(⟨F i,r,goes,who,p⟩:Wk))=O++[⟨F i,r,goes,who,p⟩]:=by rw[a2.out,Q.out,List.map_append,List.append_assoc];rfl
      rw[show Hid _=_ from rfl,e1,wkRI_snoc,List.length_append (bs:=[(⟨F i,r,goes,who,p⟩:Wk)])];exact a8
     go_roundw
     case rel=>exact⟨k+1,by omega,by go_num,a3.out,⟨_,_,a4⟩,X,a6,Nat.le_trans t B.size⟩
     case measure=>simp[intOf];omega
    ·obtain rfl:k=M:=by omega
     have HE:Hid (O=Zh goes who p F (i+1)):=by show _=_;rw[Q.out,a0.out,List.take_of_length_le (by rw[← I.out.2];omega)]
     rw[HE.out] at m;go_wp2;go_roundw
     case rel=>exact⟨i+1,by omega,by go_num,m,⟨a,b,l⟩,d,h⟩
     case measure=>simp[intOf];omega
  ·obtain rfl:i=n:=by omega
   go_wp2;go_ret;exact⟨⟨_,rfl,zu m (Nat.le_succ _)⟩,d⟩
theorem zaB (w:World)(a b c:Obj):(((w.alloc a).alloc b).alloc c).heap[w.heap.size]?=some a/\(((w.alloc a).alloc b).alloc c).heap[w.heap.size+1]?=some b/\(((w.alloc a).alloc b).alloc c).heap[w.heap.size+2]?=some c/\(((w.alloc a).alloc b).alloc c).heap.size=w.heap.size+3:=by
 refine⟨zd (zd (heap_alloc_new w a) b) c,zd (by simpa using heap_alloc_new (w.alloc a) b) c,by simpa using heap_alloc_new ((w.alloc a).alloc b) c,by simp⟩
theorem zlS {w:World}{g t:Nat}{u0 u1 u2:Value}(h:w.heap[g]?=some (.cells #[u0,u1,u2] t (0,0)))(v:Value) :
  (w.setCell ⟨g,0,none⟩ v).heap[g]?=some (.cells #[v,u1,u2] t (0,0))/\(w.setCell ⟨g,1,none⟩ v).heap[g]?=some (.cells #[u0,v,u2] t (0,0))/\(w.setCell ⟨g,2,none⟩ v).heap[g]?=some (.cells #[u0,u1,v] t (0,0)) :=
 ⟨by simpa using zm h 0 v,by simpa using zm h 1 v,by simpa using zm h 2 v⟩
theorem zcq {w:World}{g t:Nat}{u0 u1 u2:Value}(h:w.heap[g]?=some (.cells #[u0,u1,u2] t (0,0)))(v0 v1 v2:Value):(((w.setCell ⟨g,0,none⟩ v0).setCell ⟨g,1,none⟩ v1).setCell ⟨g,2,none⟩ v2).heap[g]?=some (.cells #[v0,v1,v2] t (0,0)):=by
 simpa using zm (zm (zm h 0 v0) 1 v1) 2 v2
theorem freed_0 (v:Wk)(l:zY)(h c d:Option Addr)(n f g r:Nat)(w:World)(X:v.res=0)(Z:l.stn<=1048576)(hr:r<l.stn)(W:(l.st r).who=v.who)(D:∀ j,j<l.stn->(l.st j).who=v.who->j=r)(hx:qw w h l.stn l.st) :
  Calls Tryz.prog 249 #[.agg #[int i64 v.leg,int i64 (v.res:Int),int i64 v.who,int i64 v.p.pe,int i64 v.p.len,int i64 v.p.hei,int i64 v.p.cl,.bool v.p.all,int i64 v.p.be,.bool v.goes],.agg #[.slice h l.stn n,.slice c l.ron f,.slice d l.sen g]] w fun e w'=>(∃ k m,e=.returned (.agg #[.slice k (l.stn - 1) m,.slice c l.ron f,.slice d l.sen g])/\w'.ownsRow w.heap.size 220 4 (.slice k (l.stn - 1) m) (l.stn - 1) (zy (Zx l.st r) (l.stn - 1)))/\Below w.heap.size w w':=by
 have L:(v.res:Int)=0:=by omega
 rw[L];clear L X;obtain⟨G,F,I,J⟩:=zaB w (.cells #[int i64 v.leg,int i64 0,int i64 v.who,int i64 v.p.pe,int i64 v.p.len,int i64 v.p.hei,int i64 v.p.cl,.bool v.p.all,int i64 v.p.be,.bool v.goes] 268) (.cells #[.slice h l.stn n,.slice c l.ron f,.slice d l.sen g] 145) (.cells #[.slice none 0 0,.slice none 0 0,.slice none 0 0] 145);have o:Below w.heap.size w (((w.alloc (.cells #[int i64 v.leg,int i64 0,int i64 v.who,int i64 v.p.pe,int i64 v.p.len,int i64 v.p.hei,int i64 v.p.cl,.bool v.p.all,int i64 v.p.be,.bool v.goes] 268)).alloc (.cells #[.slice h l.stn n,.slice c l.ron f,.slice d l.sen g] 145)).alloc (.cells #[.slice none 0 0,.slice none 0 0,.slice none 0 0] 145)):=zk (zk (zk bZ _) _) _;go_enter Tryz.func249,Tryz.ntmps249;go_upto_region 1 with fail;generalize ((w.alloc (.cells #[int i64 v.leg,int i64 0,int i64 v.who,int i64 v.p.pe,int i64 v.p.len,int i64 v.p.hei,int i64 v.p.cl,.bool v.p.all,int i64 v.p.be,.bool v.goes] 268)).alloc (.cells #[.slice h l.stn n,.slice c l.ron f,.slice d l.sen g] 145)).alloc (.cells #[.slice none 0 0,.slice none 0 0,.slice none 0 0] 145)=V at G F I J o ⊢;have y1:=za G 1 _ rfl;have M:=za G 2 _ rfl;have Q:=za F 0 _ rfl;go_wp2_with fail;clear y1 Q;refine(thoseStay h l.stn n l.st v.who r w.heap.size V Z hr W D (hx.below o) M).mono ?_;rintro e E ⟨⟨u,rfl,H⟩,t⟩;obtain⟨k,m,rfl,_⟩:=zp H;have s:=zb F t;have B:=zb I t;have q0:=za s 0 _ rfl;have U:=zg s 0;have C:=ze o t;have A:zx E (E.setCell ⟨w.heap.size+1,0,none⟩ (.slice k (l.stn - 1) m)) (fun b=>b=w.heap.size+1):=(zx.refl E (fun b=>b=w.heap.size+1)).set (a:=⟨w.heap.size+1,0,none⟩) rfl _
 have y:=(zlS s (.slice k (l.stn - 1) m)).1;have i:=A.blk B (show ¬ w.heap.size+2=w.heap.size+1 by omega)
 have z:=C.setCell (p:=⟨w.heap.size+1,0,none⟩) (show w.heap.size<=w.heap.size+1 by omega) (.slice k (l.stn - 1) m)
 have x:=A.own (zu H o.size) (fun q h1 h2=>by have h2:q=w.heap.size+1:=h2;have:=(World.ownsRow.lt H q h1).1;omega)
 go_upto_region 8 with fail;generalize E.setCell ⟨w.heap.size+1,0,none⟩ (.slice k (l.stn - 1) m)=Y at y i z x ⊢;clear q0 U A s B C H t F I G o M;obtain⟨l0,l1,l2⟩:=ce3 y;obtain⟨r0,r1,r2⟩:=ce3 i;obtain⟨R,S,T⟩:=fe3 i;have P:Hid _:=zcq i (.slice k (l.stn - 1) m) (.slice c l.ron f) (.slice d l.sen g);have N:Hid (Below w.heap.size w (((Y.setCell ⟨w.heap.size+2,0,none⟩ (.slice k (l.stn - 1) m)).setCell ⟨w.heap.size+2,1,none⟩ (.slice c l.ron f)).setCell ⟨w.heap.size+2,2,none⟩ (.slice d l.sen g))):=((z.setCell (p:=⟨w.heap.size+2,0,none⟩) (by show _<=w.heap.size+2;omega) _).setCell (p:=⟨w.heap.size+2,1,none⟩) (by show _<=w.heap.size+2;omega) _).setCell (p:=⟨w.heap.size+2,2,none⟩) (by show _<=w.heap.size+2;omega) _
 have O:Hid ((((Y.setCell ⟨w.heap.size+2,0,none⟩ (.slice k (l.stn - 1) m)).setCell ⟨w.heap.size+2,1,none⟩ (.slice c l.ron f)).setCell ⟨w.heap.size+2,2,none⟩ (.slice d l.sen g)).ownsRow w.heap.size 220 4 (.slice k (l.stn - 1) m) (l.stn - 1) (zy (Zx l.st r) (l.stn - 1))):=((((zx.refl Y (fun b=>b=w.heap.size+2)).set (a:=⟨w.heap.size+2,0,none⟩) rfl _).set (a:=⟨w.heap.size+2,1,none⟩) rfl _).set (a:=⟨w.heap.size+2,2,none⟩) rfl _).own x (fun q h1 h2=>by have h2:q=w.heap.size+2:=h2;subst h2;obtain⟨cs,K⟩:=zA x _ h1;rw[i] at K;simp at K)
 clear y i z x;go_wp2;clear l0 l1 l2 r0 r1 r2 R S T;obtain⟨z0,z1,z2⟩:=ce3 P.out;exact bodyPost_ret (v:=.agg #[.slice k (l.stn - 1) m,.slice c l.ron f,.slice d l.sen g]) (by simp[results,Tryz.results249,go_sem,z0,z1,z2]) rfl ⟨⟨k,m,rfl,O.out⟩,N.out⟩
theorem freed_1 (v:Wk)(l:zY)(d h c:Option Addr)(g n f r:Nat)(w:World)(X:v.res=1)(Z:l.ron<=1048576)(hr:r<l.ron)(W:(l.ro r).who=v.who)(D:∀ j,j<l.ron->(l.ro j).who=v.who->j=r)(hx:qp w h l.ron l.ro) :
  Calls Tryz.prog 249 #[.agg #[int i64 v.leg,int i64 (v.res:Int),int i64 v.who,int i64 v.p.pe,int i64 v.p.len,int i64 v.p.hei,int i64 v.p.cl,.bool v.p.all,int i64 v.p.be,.bool v.goes],.agg #[.slice d l.stn g,.slice h l.ron n,.slice c l.sen f]] w fun e w'=>(∃ k m,e=.returned (.agg #[.slice d l.stn g,.slice k (l.ron - 1) m,.slice c l.sen f])/\w'.ownsRow w.heap.size 228 4 (.slice k (l.ron - 1) m) (l.ron - 1) (zw (Z7 l.ro r) (l.ron - 1)))/\Below w.heap.size w w':=by
 have L:(v.res:Int)=1:=by omega
 rw[L];clear L X;obtain⟨G,F,I,J⟩:=zaB w (.cells #[int i64 v.leg,int i64 1,int i64 v.who,int i64 v.p.pe,int i64 v.p.len,int i64 v.p.hei,int i64 v.p.cl,.bool v.p.all,int i64 v.p.be,.bool v.goes] 268) (.cells #[.slice d l.stn g,.slice h l.ron n,.slice c l.sen f] 145) (.cells #[.slice none 0 0,.slice none 0 0,.slice none 0 0] 145);have o:Below w.heap.size w (((w.alloc (.cells #[int i64 v.leg,int i64 1,int i64 v.who,int i64 v.p.pe,int i64 v.p.len,int i64 v.p.hei,int i64 v.p.cl,.bool v.p.all,int i64 v.p.be,.bool v.goes] 268)).alloc (.cells #[.slice d l.stn g,.slice h l.ron n,.slice c l.sen f] 145)).alloc (.cells #[.slice none 0 0,.slice none 0 0,.slice none 0 0] 145)):=zk (zk (zk bZ _) _) _;go_enter Tryz.func249,Tryz.ntmps249;go_upto_region 1 with fail;generalize ((w.alloc (.cells #[int i64 v.leg,int i64 1,int i64 v.who,int i64 v.p.pe,int i64 v.p.len,int i64 v.p.hei,int i64 v.p.cl,.bool v.p.all,int i64 v.p.be,.bool v.goes] 268)).alloc (.cells #[.slice d l.stn g,.slice h l.ron n,.slice c l.sen f] 145)).alloc (.cells #[.slice none 0 0,.slice none 0 0,.slice none 0 0] 145)=V at G F I J o ⊢;have y1:=za G 1 _ rfl;have M:=za G 2 _ rfl;have Q:=za F 1 _ rfl;go_wp2_with fail;clear y1 Q;refine(thoseRoom h l.ron n l.ro v.who r w.heap.size V Z hr W D (hx.below o) M).mono ?_;rintro e E ⟨⟨u,rfl,H⟩,t⟩;obtain⟨k,m,rfl,_⟩:=zp H;have s:=zb F t;have B:=zb I t;have q1:=za s 1 _ rfl;have U:=zg s 1;have C:=ze o t;have A:zx E (E.setCell ⟨w.heap.size+1,1,none⟩ (.slice k (l.ron - 1) m)) (fun b=>b=w.heap.size+1):=(zx.refl E (fun b=>b=w.heap.size+1)).set (a:=⟨w.heap.size+1,1,none⟩) rfl _
 have y:=(zlS s (.slice k (l.ron - 1) m)).2.1;have i:=A.blk B (show ¬ w.heap.size+2=w.heap.size+1 by omega)
 have z:=C.setCell (p:=⟨w.heap.size+1,1,none⟩) (show w.heap.size<=w.heap.size+1 by omega) (.slice k (l.ron - 1) m)
 have x:=A.own (zu H o.size) (fun q h1 h2=>by have h2:q=w.heap.size+1:=h2;have:=(World.ownsRow.lt H q h1).1;omega)
 go_upto_region 8 with fail;generalize E.setCell ⟨w.heap.size+1,1,none⟩ (.slice k (l.ron - 1) m)=Y at y i z x ⊢;clear q1 U A s B C H t F I G o M;obtain⟨l0,l1,l2⟩:=ce3 y;obtain⟨r0,r1,r2⟩:=ce3 i;obtain⟨R,S,T⟩:=fe3 i;have P:Hid _:=zcq i (.slice d l.stn g) (.slice k (l.ron - 1) m) (.slice c l.sen f);have N:Hid (Below w.heap.size w (((Y.setCell ⟨w.heap.size+2,0,none⟩ (.slice d l.stn g)).setCell ⟨w.heap.size+2,1,none⟩ (.slice k (l.ron - 1) m)).setCell ⟨w.heap.size+2,2,none⟩ (.slice c l.sen f))):=((z.setCell (p:=⟨w.heap.size+2,0,none⟩) (by show _<=w.heap.size+2;omega) _).setCell (p:=⟨w.heap.size+2,1,none⟩) (by show _<=w.heap.size+2;omega) _).setCell (p:=⟨w.heap.size+2,2,none⟩) (by show _<=w.heap.size+2;omega) _
 have O:Hid ((((Y.setCell ⟨w.heap.size+2,0,none⟩ (.slice d l.stn g)).setCell ⟨w.heap.size+2,1,none⟩ (.slice k (l.ron - 1) m)).setCell ⟨w.heap.size+2,2,none⟩ (.slice c l.sen f)).ownsRow w.heap.size 228 4 (.slice k (l.ron - 1) m) (l.ron - 1) (zw (Z7 l.ro r) (l.ron - 1))):=((((zx.refl Y (fun b=>b=w.heap.size+2)).set (a:=⟨w.heap.size+2,0,none⟩) rfl _).set (a:=⟨w.heap.size+2,1,none⟩) rfl _).set (a:=⟨w.heap.size+2,2,none⟩) rfl _).own x (fun q h1 h2=>by have h2:q=w.heap.size+2:=h2;subst h2;obtain⟨cs,K⟩:=zA x _ h1;rw[i] at K;simp at K)
 clear y i z x;go_wp2;clear l0 l1 l2 r0 r1 r2 R S T;obtain⟨z0,z1,z2⟩:=ce3 P.out;exact bodyPost_ret (v:=.agg #[.slice d l.stn g,.slice k (l.ron - 1) m,.slice c l.sen f]) (by simp[results,Tryz.results249,go_sem,z0,z1,z2]) rfl ⟨⟨k,m,rfl,O.out⟩,N.out⟩
theorem freed_2 (v:Wk)(l:zY)(d c h:Option Addr)(g f n r:Nat)(w:World)(W:v.res=2)(X:l.sen<=1048576)(hr:r<l.sen)(U:(l.se r).who=v.who)(D:∀ j,j<l.sen->(l.se j).who=v.who->j=r)(Z:qE w h l.sen l.se) :
  Calls Tryz.prog 249 #[.agg #[int i64 v.leg,int i64 (v.res:Int),int i64 v.who,int i64 v.p.pe,int i64 v.p.len,int i64 v.p.hei,int i64 v.p.cl,.bool v.p.all,int i64 v.p.be,.bool v.goes],.agg #[.slice d l.stn g,.slice c l.ron f,.slice h l.sen n]] w fun e w'=>(∃ k m,e=.returned (.agg #[.slice d l.stn g,.slice c l.ron f,.slice k (l.sen - 1) m])/\w'.ownsRow w.heap.size 234 2 (.slice k (l.sen - 1) m) (l.sen - 1) (zB (Z7 l.se r) (l.sen - 1)))/\Below w.heap.size w w':=by
 have L:(v.res:Int)=2:=by omega
 rw[L];clear L W;obtain⟨G,F,J,K⟩:=zaB w (.cells #[int i64 v.leg,int i64 2,int i64 v.who,int i64 v.p.pe,int i64 v.p.len,int i64 v.p.hei,int i64 v.p.cl,.bool v.p.all,int i64 v.p.be,.bool v.goes] 268) (.cells #[.slice d l.stn g,.slice c l.ron f,.slice h l.sen n] 145) (.cells #[.slice none 0 0,.slice none 0 0,.slice none 0 0] 145);have o:Below w.heap.size w (((w.alloc (.cells #[int i64 v.leg,int i64 2,int i64 v.who,int i64 v.p.pe,int i64 v.p.len,int i64 v.p.hei,int i64 v.p.cl,.bool v.p.all,int i64 v.p.be,.bool v.goes] 268)).alloc (.cells #[.slice d l.stn g,.slice c l.ron f,.slice h l.sen n] 145)).alloc (.cells #[.slice none 0 0,.slice none 0 0,.slice none 0 0] 145)):=zk (zk (zk bZ _) _) _;go_enter Tryz.func249,Tryz.ntmps249;go_upto_region 1 with fail;generalize ((w.alloc (.cells #[int i64 v.leg,int i64 2,int i64 v.who,int i64 v.p.pe,int i64 v.p.len,int i64 v.p.hei,int i64 v.p.cl,.bool v.p.all,int i64 v.p.be,.bool v.goes] 268)).alloc (.cells #[.slice d l.stn g,.slice c l.ron f,.slice h l.sen n] 145)).alloc (.cells #[.slice none 0 0,.slice none 0 0,.slice none 0 0] 145)=V at G F J K o ⊢;have y1:=za G 1 _ rfl;have M:=za G 2 _ rfl;have H:=za F 2 _ rfl;go_wp2_with fail;clear y1 H;refine(thoseSeat h l.sen n l.se v.who r w.heap.size V X hr U D (Z.below o) M).mono ?_;rintro e E ⟨⟨u,rfl,I⟩,t⟩;obtain⟨k,m,rfl,_⟩:=zp I;have s:=zb F t;have B:=zb J t;have q2:=za s 2 _ rfl;have T:=zg s 2;have C:=ze o t;have A:zx E (E.setCell ⟨w.heap.size+1,2,none⟩ (.slice k (l.sen - 1) m)) (fun b=>b=w.heap.size+1):=(zx.refl E (fun b=>b=w.heap.size+1)).set (a:=⟨w.heap.size+1,2,none⟩) rfl _
 have y:=(zlS s (.slice k (l.sen - 1) m)).2.2;have i:=A.blk B (show ¬ w.heap.size+2=w.heap.size+1 by omega)
 have z:=C.setCell (p:=⟨w.heap.size+1,2,none⟩) (show w.heap.size<=w.heap.size+1 by omega) (.slice k (l.sen - 1) m)
 have x:=A.own (zu I o.size) (fun q h1 h2=>by have h2:q=w.heap.size+1:=h2;have:=(World.ownsRow.lt I q h1).1;omega)
 go_upto_region 8 with fail;generalize E.setCell ⟨w.heap.size+1,2,none⟩ (.slice k (l.sen - 1) m)=Y at y i z x ⊢;clear q2 T A s B C I t F J G o M;obtain⟨l0,l1,l2⟩:=ce3 y;obtain⟨r0,r1,r2⟩:=ce3 i;obtain⟨Q,R,S⟩:=fe3 i;have P:Hid _:=zcq i (.slice d l.stn g) (.slice c l.ron f) (.slice k (l.sen - 1) m);have N:Hid (Below w.heap.size w (((Y.setCell ⟨w.heap.size+2,0,none⟩ (.slice d l.stn g)).setCell ⟨w.heap.size+2,1,none⟩ (.slice c l.ron f)).setCell ⟨w.heap.size+2,2,none⟩ (.slice k (l.sen - 1) m))):=((z.setCell (p:=⟨w.heap.size+2,0,none⟩) (by show _<=w.heap.size+2;omega) _).setCell (p:=⟨w.heap.size+2,1,none⟩) (by show _<=w.heap.size+2;omega) _).setCell (p:=⟨w.heap.size+2,2,none⟩) (by show _<=w.heap.size+2;omega) _
 have O:Hid ((((Y.setCell ⟨w.heap.size+2,0,none⟩ (.slice d l.stn g)).setCell ⟨w.heap.size+2,1,none⟩ (.slice c l.ron f)).setCell ⟨w.heap.size+2,2,none⟩ (.slice k (l.sen - 1) m)).ownsRow w.heap.size 234 2 (.slice k (l.sen - 1) m) (l.sen - 1) (zB (Z7 l.se r) (l.sen - 1))):=((((zx.refl Y (fun b=>b=w.heap.size+2)).set (a:=⟨w.heap.size+2,0,none⟩) rfl _).set (a:=⟨w.heap.size+2,1,none⟩) rfl _).set (a:=⟨w.heap.size+2,2,none⟩) rfl _).own x (fun q h1 h2=>by have h2:q=w.heap.size+2:=h2;subst h2;obtain⟨cs,H⟩:=zA x _ h1;rw[i] at H;simp at H)
 clear y i z x;go_wp2;clear l0 l1 l2 r0 r1 r2 Q R S;obtain⟨z0,z1,z2⟩:=ce3 P.out;exact bodyPost_ret (v:=.agg #[.slice d l.stn g,.slice c l.ron f,.slice k (l.sen - 1) m]) (by simp[results,Tryz.results249,go_sem,z0,z1,z2]) rfl ⟨⟨k,m,rfl,O.out⟩,N.out⟩
theorem changed_4 (b:ql)(d:Option Addr)(c:Nat)(q:Int)(y:OpD)(f:Option Addr)(h:Nat)(w:World)(z:y.kind=4) :
  Calls Tryz.prog 205 #[.agg #[int i64 b.name,int i64 b.who,.string b.own,.slice d b.lgn c,int i64 b.pe,int i64 b.len,int i64 b.hei,int i64 b.cl,.bool b.all,int i64 b.be,int i64 b.state,int i64 b.unt,int i64 b.price],int i64 q,.agg #[int i64 y.kind,.string y.own,int i64 y.name,.slice f y.lgn h,int i64 y.pe,int i64 y.len,int i64 y.hei,int i64 y.cl,.bool y.all,int i64 y.be,int i64 y.unt,int i64 y.now]] w fun e w'=>e=.returned (.agg #[int i64 b.name,int i64 b.who,.string b.own,.slice d b.lgn c,int i64 b.pe,int i64 b.len,int i64 b.hei,int i64 b.cl,.bool b.all,int i64 b.be,int i64 2,int i64 0,int i64 b.price])/\Below w.heap.size w w':=by
 rw[z];obtain⟨i,n,o,t⟩:=zaB w (.cells #[int i64 b.name,int i64 b.who,.string b.own,.slice d b.lgn c,int i64 b.pe,int i64 b.len,int i64 b.hei,int i64 b.cl,.bool b.all,int i64 b.be,int i64 b.state,int i64 b.unt,int i64 b.price] 150) (.cells #[int i64 4,.string y.own,int i64 y.name,.slice f y.lgn h,int i64 y.pe,int i64 y.len,int i64 y.hei,int i64 y.cl,.bool y.all,int i64 y.be,int i64 y.unt,int i64 y.now] 47) (.cells #[int i64 0,int i64 0,.string ⟨#[]⟩,.slice none 0 0,int i64 0,int i64 0,int i64 0,int i64 0,.bool false,int i64 0,int i64 0,int i64 0,int i64 0] 150);have j:Below w.heap.size w (((w.alloc (.cells #[int i64 b.name,int i64 b.who,.string b.own,.slice d b.lgn c,int i64 b.pe,int i64 b.len,int i64 b.hei,int i64 b.cl,.bool b.all,int i64 b.be,int i64 b.state,int i64 b.unt,int i64 b.price] 150)).alloc (.cells #[int i64 4,.string y.own,int i64 y.name,.slice f y.lgn h,int i64 y.pe,int i64 y.len,int i64 y.hei,int i64 y.cl,.bool y.all,int i64 y.be,int i64 y.unt,int i64 y.now] 47)).alloc (.cells #[int i64 0,int i64 0,.string ⟨#[]⟩,.slice none 0 0,int i64 0,int i64 0,int i64 0,int i64 0,.bool false,int i64 0,int i64 0,int i64 0,int i64 0] 150)):=zk (zk (zk bZ _) _) _;clear z;go_enter Tryz.func205,Tryz.ntmps205;go_upto_region 1 with fail;generalize ((w.alloc (.cells #[int i64 b.name,int i64 b.who,.string b.own,.slice d b.lgn c,int i64 b.pe,int i64 b.len,int i64 b.hei,int i64 b.cl,.bool b.all,int i64 b.be,int i64 b.state,int i64 b.unt,int i64 b.price] 150)).alloc (.cells #[int i64 4,.string y.own,int i64 y.name,.slice f y.lgn h,int i64 y.pe,int i64 y.len,int i64 y.hei,int i64 y.cl,.bool y.all,int i64 y.be,int i64 y.unt,int i64 y.now] 47)).alloc (.cells #[int i64 0,int i64 0,.string ⟨#[]⟩,.slice none 0 0,int i64 0,int i64 0,int i64 0,int i64 0,.bool false,int i64 0,int i64 0,int i64 0,int i64 0] 150)=V at i n o t j ⊢;have D:=za n 0 _ rfl;have u:=za i 10 _ rfl;have x:=za i 11 _ rfl;have r:=zg i 10;have s:=zg i 11;have k:((V.setCell ⟨w.heap.size,10,none⟩ (int i64 2)).setCell ⟨w.heap.size,11,none⟩ (int i64 0)).heap[w.heap.size]?=some (.cells #[int i64 b.name,int i64 b.who,.string b.own,.slice d b.lgn c,int i64 b.pe,int i64 b.len,int i64 b.hei,int i64 b.cl,.bool b.all,int i64 b.be,int i64 2,int i64 0,int i64 b.price] 150 (0,0)):=by simpa using(zm (zm i 10 (int i64 2)) 11 (int i64 0))
 have g:=(((zx.refl V (fun b=>b=w.heap.size)).set (a:=⟨w.heap.size,10,none⟩) rfl (int i64 2)).set (a:=⟨w.heap.size,11,none⟩) rfl (int i64 0)).blk o (show ¬ w.heap.size+2=w.heap.size by omega)
 have l:=((j.setCell (p:=⟨w.heap.size,10,none⟩) (Nat.le_refl _) (int i64 2)).setCell (p:=⟨w.heap.size,11,none⟩) (Nat.le_refl _) (int i64 0));rw[show w.heap.size+2=w.heap.size+1+1 by omega] at g
 go_upto_region 12 with fail;generalize (V.setCell ⟨w.heap.size,10,none⟩ (int i64 2)).setCell ⟨w.heap.size,11,none⟩ (int i64 0)=W at k g l ⊢;clear D  u r x s i n o j;refine wp_region_lit ?_;refine wpList_load_row rfl _ _ rfl w.heap.size rfl _ _ (0,0) _ k Tryz.underlying150 rfl Tryz.sizeBk ?_;refine wpList_store_row rfl _ _ _ rfl (w.heap.size+1+1) _ rfl rfl _ _ g Tryz.sizeBk rfl (by simp[Value.oneCell']) ?_
 obtain⟨F,m⟩:∃ F,F=W.setRow (w.heap.size+1+1) #[int i64 b.name,int i64 b.who,.string b.own,.slice d b.lgn c,int i64 b.pe,int i64 b.len,int i64 b.hei,int i64 b.cl,.bool b.all,int i64 b.be,int i64 2,int i64 0,int i64 b.price]:=⟨_,rfl⟩;have B:F.heap[w.heap.size+1+1]?=some (.cells #[int i64 b.name,int i64 b.who,.string b.own,.slice d b.lgn c,int i64 b.pe,int i64 b.len,int i64 b.hei,int i64 b.cl,.bool b.all,int i64 b.be,int i64 2,int i64 0,int i64 b.price] 150 (0,0)):=by rw[m];exact setRow_heap _ _ _ _ _ _ g
 have A:Below w.heap.size w F:=by rw[m];exact below_setRow l (by omega) _
 rw[← m];clear m;have C:=run_loadVar_row (P:=Tryz.prog) F (w.heap.size+1+1) 150 150 _ (0,0) _ B Tryz.underlying150 rfl Tryz.sizeBk;go_wp2;exact bodyPost_ret (v:=.agg #[int i64 b.name,int i64 b.who,.string b.own,.slice d b.lgn c,int i64 b.pe,int i64 b.len,int i64 b.hei,int i64 b.cl,.bool b.all,int i64 b.be,int i64 2,int i64 0,int i64 b.price]) (Qq Tryz.results205 rfl C) rfl ⟨rfl,A⟩
theorem changed_6 (b:ql)(d:Option Addr)(c:Nat)(q:Int)(y:OpD)(f:Option Addr)(h:Nat)(w:World)(z:y.kind=6) :
  Calls Tryz.prog 205 #[.agg #[int i64 b.name,int i64 b.who,.string b.own,.slice d b.lgn c,int i64 b.pe,int i64 b.len,int i64 b.hei,int i64 b.cl,.bool b.all,int i64 b.be,int i64 b.state,int i64 b.unt,int i64 b.price],int i64 q,.agg #[int i64 y.kind,.string y.own,int i64 y.name,.slice f y.lgn h,int i64 y.pe,int i64 y.len,int i64 y.hei,int i64 y.cl,.bool y.all,int i64 y.be,int i64 y.unt,int i64 y.now]] w fun e w'=>e=.returned (.agg #[int i64 b.name,int i64 b.who,.string b.own,.slice d b.lgn c,int i64 b.pe,int i64 b.len,int i64 b.hei,int i64 b.cl,.bool b.all,int i64 b.be,int i64 3,int i64 0,int i64 b.price])/\Below w.heap.size w w':=by
 rw[z];obtain⟨i,n,o,t⟩:=zaB w (.cells #[int i64 b.name,int i64 b.who,.string b.own,.slice d b.lgn c,int i64 b.pe,int i64 b.len,int i64 b.hei,int i64 b.cl,.bool b.all,int i64 b.be,int i64 b.state,int i64 b.unt,int i64 b.price] 150) (.cells #[int i64 6,.string y.own,int i64 y.name,.slice f y.lgn h,int i64 y.pe,int i64 y.len,int i64 y.hei,int i64 y.cl,.bool y.all,int i64 y.be,int i64 y.unt,int i64 y.now] 47) (.cells #[int i64 0,int i64 0,.string ⟨#[]⟩,.slice none 0 0,int i64 0,int i64 0,int i64 0,int i64 0,.bool false,int i64 0,int i64 0,int i64 0,int i64 0] 150);have j:Below w.heap.size w (((w.alloc (.cells #[int i64 b.name,int i64 b.who,.string b.own,.slice d b.lgn c,int i64 b.pe,int i64 b.len,int i64 b.hei,int i64 b.cl,.bool b.all,int i64 b.be,int i64 b.state,int i64 b.unt,int i64 b.price] 150)).alloc (.cells #[int i64 6,.string y.own,int i64 y.name,.slice f y.lgn h,int i64 y.pe,int i64 y.len,int i64 y.hei,int i64 y.cl,.bool y.all,int i64 y.be,int i64 y.unt,int i64 y.now] 47)).alloc (.cells #[int i64 0,int i64 0,.string ⟨#[]⟩,.slice none 0 0,int i64 0,int i64 0,int i64 0,int i64 0,.bool false,int i64 0,int i64 0,int i64 0,int i64 0] 150)):=zk (zk (zk bZ _) _) _;clear z;go_enter Tryz.func205,Tryz.ntmps205;go_upto_region 1 with fail;generalize ((w.alloc (.cells #[int i64 b.name,int i64 b.who,.string b.own,.slice d b.lgn c,int i64 b.pe,int i64 b.len,int i64 b.hei,int i64 b.cl,.bool b.all,int i64 b.be,int i64 b.state,int i64 b.unt,int i64 b.price] 150)).alloc (.cells #[int i64 6,.string y.own,int i64 y.name,.slice f y.lgn h,int i64 y.pe,int i64 y.len,int i64 y.hei,int i64 y.cl,.bool y.all,int i64 y.be,int i64 y.unt,int i64 y.now] 47)).alloc (.cells #[int i64 0,int i64 0,.string ⟨#[]⟩,.slice none 0 0,int i64 0,int i64 0,int i64 0,int i64 0,.bool false,int i64 0,int i64 0,int i64 0,int i64 0] 150)=V at i n o t j ⊢;have D:=za n 0 _ rfl;have u:=za i 10 _ rfl;have x:=za i 11 _ rfl;have r:=zg i 10;have s:=zg i 11;have k:((V.setCell ⟨w.heap.size,10,none⟩ (int i64 3)).setCell ⟨w.heap.size,11,none⟩ (int i64 0)).heap[w.heap.size]?=some (.cells #[int i64 b.name,int i64 b.who,.string b.own,.slice d b.lgn c,int i64 b.pe,int i64 b.len,int i64 b.hei,int i64 b.cl,.bool b.all,int i64 b.be,int i64 3,int i64 0,int i64 b.price] 150 (0,0)):=by simpa using(zm (zm i 10 (int i64 3)) 11 (int i64 0))
 have g:=(((zx.refl V (fun b=>b=w.heap.size)).set (a:=⟨w.heap.size,10,none⟩) rfl (int i64 3)).set (a:=⟨w.heap.size,11,none⟩) rfl (int i64 0)).blk o (show ¬ w.heap.size+2=w.heap.size by omega)
 have l:=((j.setCell (p:=⟨w.heap.size,10,none⟩) (Nat.le_refl _) (int i64 3)).setCell (p:=⟨w.heap.size,11,none⟩) (Nat.le_refl _) (int i64 0));rw[show w.heap.size+2=w.heap.size+1+1 by omega] at g
 go_upto_region 12 with fail;generalize (V.setCell ⟨w.heap.size,10,none⟩ (int i64 3)).setCell ⟨w.heap.size,11,none⟩ (int i64 0)=W at k g l ⊢;clear D  u r x s i n o j;refine wp_region_lit ?_;refine wpList_load_row rfl _ _ rfl w.heap.size rfl _ _ (0,0) _ k Tryz.underlying150 rfl Tryz.sizeBk ?_;refine wpList_store_row rfl _ _ _ rfl (w.heap.size+1+1) _ rfl rfl _ _ g Tryz.sizeBk rfl (by simp[Value.oneCell']) ?_
 obtain⟨F,m⟩:∃ F,F=W.setRow (w.heap.size+1+1) #[int i64 b.name,int i64 b.who,.string b.own,.slice d b.lgn c,int i64 b.pe,int i64 b.len,int i64 b.hei,int i64 b.cl,.bool b.all,int i64 b.be,int i64 3,int i64 0,int i64 b.price]:=⟨_,rfl⟩;have B:F.heap[w.heap.size+1+1]?=some (.cells #[int i64 b.name,int i64 b.who,.string b.own,.slice d b.lgn c,int i64 b.pe,int i64 b.len,int i64 b.hei,int i64 b.cl,.bool b.all,int i64 b.be,int i64 3,int i64 0,int i64 b.price] 150 (0,0)):=by rw[m];exact setRow_heap _ _ _ _ _ _ g
 have A:Below w.heap.size w F:=by rw[m];exact below_setRow l (by omega) _
 rw[← m];clear m;have C:=run_loadVar_row (P:=Tryz.prog) F (w.heap.size+1+1) 150 150 _ (0,0) _ B Tryz.underlying150 rfl Tryz.sizeBk;go_wp2;exact bodyPost_ret (v:=.agg #[int i64 b.name,int i64 b.who,.string b.own,.slice d b.lgn c,int i64 b.pe,int i64 b.len,int i64 b.hei,int i64 b.cl,.bool b.all,int i64 b.be,int i64 3,int i64 0,int i64 b.price]) (Qq Tryz.results205 rfl C) rfl ⟨rfl,A⟩
theorem changed_7 (b:ql)(d:Option Addr)(c:Nat)(q:Int)(y:OpD)(f:Option Addr)(h:Nat)(w:World)(s:y.kind=7) :
  Calls Tryz.prog 205 #[.agg #[int i64 b.name,int i64 b.who,.string b.own,.slice d b.lgn c,int i64 b.pe,int i64 b.len,int i64 b.hei,int i64 b.cl,.bool b.all,int i64 b.be,int i64 b.state,int i64 b.unt,int i64 b.price],int i64 q,.agg #[int i64 y.kind,.string y.own,int i64 y.name,.slice f y.lgn h,int i64 y.pe,int i64 y.len,int i64 y.hei,int i64 y.cl,.bool y.all,int i64 y.be,int i64 y.unt,int i64 y.now]] w fun e w'=>e=.returned (.agg #[int i64 b.name,int i64 b.who,.string y.own,.slice d b.lgn c,int i64 b.pe,int i64 b.len,int i64 b.hei,int i64 b.cl,.bool b.all,int i64 b.be,int i64 b.state,int i64 b.unt,int i64 b.price])/\Below w.heap.size w w':=by
 rw[s];obtain⟨j,m,o,r⟩:=zaB w (.cells #[int i64 b.name,int i64 b.who,.string b.own,.slice d b.lgn c,int i64 b.pe,int i64 b.len,int i64 b.hei,int i64 b.cl,.bool b.all,int i64 b.be,int i64 b.state,int i64 b.unt,int i64 b.price] 150) (.cells #[int i64 7,.string y.own,int i64 y.name,.slice f y.lgn h,int i64 y.pe,int i64 y.len,int i64 y.hei,int i64 y.cl,.bool y.all,int i64 y.be,int i64 y.unt,int i64 y.now] 47) (.cells #[int i64 0,int i64 0,.string ⟨#[]⟩,.slice none 0 0,int i64 0,int i64 0,int i64 0,int i64 0,.bool false,int i64 0,int i64 0,int i64 0,int i64 0] 150);have i:Below w.heap.size w (((w.alloc (.cells #[int i64 b.name,int i64 b.who,.string b.own,.slice d b.lgn c,int i64 b.pe,int i64 b.len,int i64 b.hei,int i64 b.cl,.bool b.all,int i64 b.be,int i64 b.state,int i64 b.unt,int i64 b.price] 150)).alloc (.cells #[int i64 7,.string y.own,int i64 y.name,.slice f y.lgn h,int i64 y.pe,int i64 y.len,int i64 y.hei,int i64 y.cl,.bool y.all,int i64 y.be,int i64 y.unt,int i64 y.now] 47)).alloc (.cells #[int i64 0,int i64 0,.string ⟨#[]⟩,.slice none 0 0,int i64 0,int i64 0,int i64 0,int i64 0,.bool false,int i64 0,int i64 0,int i64 0,int i64 0] 150)):=zk (zk (zk bZ _) _) _;clear s;go_enter Tryz.func205,Tryz.ntmps205;go_upto_region 1 with fail;generalize ((w.alloc (.cells #[int i64 b.name,int i64 b.who,.string b.own,.slice d b.lgn c,int i64 b.pe,int i64 b.len,int i64 b.hei,int i64 b.cl,.bool b.all,int i64 b.be,int i64 b.state,int i64 b.unt,int i64 b.price] 150)).alloc (.cells #[int i64 7,.string y.own,int i64 y.name,.slice f y.lgn h,int i64 y.pe,int i64 y.len,int i64 y.hei,int i64 y.cl,.bool y.all,int i64 y.be,int i64 y.unt,int i64 y.now] 47)).alloc (.cells #[int i64 0,int i64 0,.string ⟨#[]⟩,.slice none 0 0,int i64 0,int i64 0,int i64 0,int i64 0,.bool false,int i64 0,int i64 0,int i64 0,int i64 0] 150)=V at j m o r i ⊢;have A:=za m 0 _ rfl;have B:=za m 1 _ rfl;have C:=za j 2 _ rfl;have x:=zg j 2;have k:(V.setCell ⟨w.heap.size,2,none⟩ (.string y.own)).heap[w.heap.size]?=some (.cells #[int i64 b.name,int i64 b.who,.string y.own,.slice d b.lgn c,int i64 b.pe,int i64 b.len,int i64 b.hei,int i64 b.cl,.bool b.all,int i64 b.be,int i64 b.state,int i64 b.unt,int i64 b.price] 150 (0,0)):=by simpa using(zm j 2 (.string y.own))
 have g:=((zx.refl V (fun b=>b=w.heap.size)).set (a:=⟨w.heap.size,2,none⟩) rfl (.string y.own)).blk o (show ¬ w.heap.size+2=w.heap.size by omega)
 have l:=(i.setCell (p:=⟨w.heap.size,2,none⟩) (Nat.le_refl _) (.string y.own));rw[show w.heap.size+2=w.heap.size+1+1 by omega] at g
 go_upto_region 12 with fail;generalize V.setCell ⟨w.heap.size,2,none⟩ (.string y.own)=W at k g l ⊢;clear A B C x j m o i;refine wp_region_lit ?_;refine wpList_load_row rfl _ _ rfl w.heap.size rfl _ _ (0,0) _ k Tryz.underlying150 rfl Tryz.sizeBk ?_;refine wpList_store_row rfl _ _ _ rfl (w.heap.size+1+1) _ rfl rfl _ _ g Tryz.sizeBk rfl (by simp[Value.oneCell']) ?_
 obtain⟨F,n⟩:∃ F,F=W.setRow (w.heap.size+1+1) #[int i64 b.name,int i64 b.who,.string y.own,.slice d b.lgn c,int i64 b.pe,int i64 b.len,int i64 b.hei,int i64 b.cl,.bool b.all,int i64 b.be,int i64 b.state,int i64 b.unt,int i64 b.price]:=⟨_,rfl⟩;have u:F.heap[w.heap.size+1+1]?=some (.cells #[int i64 b.name,int i64 b.who,.string y.own,.slice d b.lgn c,int i64 b.pe,int i64 b.len,int i64 b.hei,int i64 b.cl,.bool b.all,int i64 b.be,int i64 b.state,int i64 b.unt,int i64 b.price] 150 (0,0)):=by rw[n];exact setRow_heap _ _ _ _ _ _ g
 have t:Below w.heap.size w F:=by rw[n];exact below_setRow l (by omega) _
 rw[← n];clear n;have z:=run_loadVar_row (P:=Tryz.prog) F (w.heap.size+1+1) 150 150 _ (0,0) _ u Tryz.underlying150 rfl Tryz.sizeBk;go_wp2;exact bodyPost_ret (v:=.agg #[int i64 b.name,int i64 b.who,.string y.own,.slice d b.lgn c,int i64 b.pe,int i64 b.len,int i64 b.hei,int i64 b.cl,.bool b.all,int i64 b.be,int i64 b.state,int i64 b.unt,int i64 b.price]) (Qq Tryz.results205 rfl z) rfl ⟨rfl,t⟩
theorem changed_8 (b:ql)(d:Option Addr)(c:Nat)(q:Int)(y:OpD)(f:Option Addr)(h:Nat)(w:World)(u:y.kind=8) :
  Calls Tryz.prog 205 #[.agg #[int i64 b.name,int i64 b.who,.string b.own,.slice d b.lgn c,int i64 b.pe,int i64 b.len,int i64 b.hei,int i64 b.cl,.bool b.all,int i64 b.be,int i64 b.state,int i64 b.unt,int i64 b.price],int i64 q,.agg #[int i64 y.kind,.string y.own,int i64 y.name,.slice f y.lgn h,int i64 y.pe,int i64 y.len,int i64 y.hei,int i64 y.cl,.bool y.all,int i64 y.be,int i64 y.unt,int i64 y.now]] w fun e w'=>e=.returned (.agg #[int i64 b.name,int i64 b.who,.string b.own,.slice d b.lgn c,int i64 b.pe,int i64 b.len,int i64 b.hei,int i64 b.cl,.bool b.all,int i64 b.be,int i64 4,int i64 b.unt,int i64 b.price])/\Below w.heap.size w w':=by
 rw[u];obtain⟨j,n,o,s⟩:=zaB w (.cells #[int i64 b.name,int i64 b.who,.string b.own,.slice d b.lgn c,int i64 b.pe,int i64 b.len,int i64 b.hei,int i64 b.cl,.bool b.all,int i64 b.be,int i64 b.state,int i64 b.unt,int i64 b.price] 150) (.cells #[int i64 8,.string y.own,int i64 y.name,.slice f y.lgn h,int i64 y.pe,int i64 y.len,int i64 y.hei,int i64 y.cl,.bool y.all,int i64 y.be,int i64 y.unt,int i64 y.now] 47) (.cells #[int i64 0,int i64 0,.string ⟨#[]⟩,.slice none 0 0,int i64 0,int i64 0,int i64 0,int i64 0,.bool false,int i64 0,int i64 0,int i64 0,int i64 0] 150);have i:Below w.heap.size w (((w.alloc (.cells #[int i64 b.name,int i64 b.who,.string b.own,.slice d b.lgn c,int i64 b.pe,int i64 b.len,int i64 b.hei,int i64 b.cl,.bool b.all,int i64 b.be,int i64 b.state,int i64 b.unt,int i64 b.price] 150)).alloc (.cells #[int i64 8,.string y.own,int i64 y.name,.slice f y.lgn h,int i64 y.pe,int i64 y.len,int i64 y.hei,int i64 y.cl,.bool y.all,int i64 y.be,int i64 y.unt,int i64 y.now] 47)).alloc (.cells #[int i64 0,int i64 0,.string ⟨#[]⟩,.slice none 0 0,int i64 0,int i64 0,int i64 0,int i64 0,.bool false,int i64 0,int i64 0,int i64 0,int i64 0] 150)):=zk (zk (zk bZ _) _) _;clear u;go_enter Tryz.func205,Tryz.ntmps205;go_upto_region 1 with fail;generalize ((w.alloc (.cells #[int i64 b.name,int i64 b.who,.string b.own,.slice d b.lgn c,int i64 b.pe,int i64 b.len,int i64 b.hei,int i64 b.cl,.bool b.all,int i64 b.be,int i64 b.state,int i64 b.unt,int i64 b.price] 150)).alloc (.cells #[int i64 8,.string y.own,int i64 y.name,.slice f y.lgn h,int i64 y.pe,int i64 y.len,int i64 y.hei,int i64 y.cl,.bool y.all,int i64 y.be,int i64 y.unt,int i64 y.now] 47)).alloc (.cells #[int i64 0,int i64 0,.string ⟨#[]⟩,.slice none 0 0,int i64 0,int i64 0,int i64 0,int i64 0,.bool false,int i64 0,int i64 0,int i64 0,int i64 0] 150)=V at j n o s i ⊢;have B:=za n 0 _ rfl;have t:=za j 10 _ rfl;have r:=zg j 10;have k:(V.setCell ⟨w.heap.size,10,none⟩ (int i64 4)).heap[w.heap.size]?=some (.cells #[int i64 b.name,int i64 b.who,.string b.own,.slice d b.lgn c,int i64 b.pe,int i64 b.len,int i64 b.hei,int i64 b.cl,.bool b.all,int i64 b.be,int i64 4,int i64 b.unt,int i64 b.price] 150 (0,0)):=by simpa using(zm j 10 (int i64 4))
 have g:=((zx.refl V (fun b=>b=w.heap.size)).set (a:=⟨w.heap.size,10,none⟩) rfl (int i64 4)).blk o (show ¬ w.heap.size+2=w.heap.size by omega)
 have l:=(i.setCell (p:=⟨w.heap.size,10,none⟩) (Nat.le_refl _) (int i64 4));rw[show w.heap.size+2=w.heap.size+1+1 by omega] at g
 go_upto_region 12 with fail;generalize V.setCell ⟨w.heap.size,10,none⟩ (int i64 4)=W at k g l ⊢;clear B  t r j n o i;refine wp_region_lit ?_;refine wpList_load_row rfl _ _ rfl w.heap.size rfl _ _ (0,0) _ k Tryz.underlying150 rfl Tryz.sizeBk ?_;refine wpList_store_row rfl _ _ _ rfl (w.heap.size+1+1) _ rfl rfl _ _ g Tryz.sizeBk rfl (by simp[Value.oneCell']) ?_
 obtain⟨F,m⟩:∃ F,F=W.setRow (w.heap.size+1+1) #[int i64 b.name,int i64 b.who,.string b.own,.slice d b.lgn c,int i64 b.pe,int i64 b.len,int i64 b.hei,int i64 b.cl,.bool b.all,int i64 b.be,int i64 4,int i64 b.unt,int i64 b.price]:=⟨_,rfl⟩;have z:F.heap[w.heap.size+1+1]?=some (.cells #[int i64 b.name,int i64 b.who,.string b.own,.slice d b.lgn c,int i64 b.pe,int i64 b.len,int i64 b.hei,int i64 b.cl,.bool b.all,int i64 b.be,int i64 4,int i64 b.unt,int i64 b.price] 150 (0,0)):=by rw[m];exact setRow_heap _ _ _ _ _ _ g
 have x:Below w.heap.size w F:=by rw[m];exact below_setRow l (by omega) _
 rw[← m];clear m;have A:=run_loadVar_row (P:=Tryz.prog) F (w.heap.size+1+1) 150 150 _ (0,0) _ z Tryz.underlying150 rfl Tryz.sizeBk;go_wp2;exact bodyPost_ret (v:=.agg #[int i64 b.name,int i64 b.who,.string b.own,.slice d b.lgn c,int i64 b.pe,int i64 b.len,int i64 b.hei,int i64 b.cl,.bool b.all,int i64 b.be,int i64 4,int i64 b.unt,int i64 b.price]) (Qq Tryz.results205 rfl A) rfl ⟨rfl,x⟩
section
open Go.RowKit
structure Ch5 (w u:World)(y:OpD)(b:Option Addr)(d:Nat)(cs:Array Value)(e:Option (Option Addr × Nat)):Prop where
 bel:Below w.heap.size w u
 ban:Zq w
 far:Zu w
 pok:QU ⟨y.pe,y.len,y.hei,y.cl,y.all,y.be⟩ y.lgn
 legs:zT w b y.lgn y.lg
 bb:u.heap[w.heap.size]?=some (.cells cs 150 (0,0))
 box:u.heap[w.heap.size+1]?=some (.cells #[int i64 5,.string y.own,int i64 y.name,.slice b y.lgn d,int i64 y.pe,int i64 y.len,int i64 y.hei,int i64 y.cl,.bool y.all,int i64 y.be,int i64 y.unt,int i64 y.now] 47 (0,0))
 res:u.heap[w.heap.size+1+1]?=some (.cells #[int i64 0,int i64 0,.string ⟨#[]⟩,.slice none 0 0,int i64 0,int i64 0,int i64 0,int i64 0,.bool false,int i64 0,int i64 0,int i64 0,int i64 0] 150 (0,0))
 h1:∀ a c,e=some (a,c)->u.ownsRow w.heap.size 3 1 (.slice a y.lgn c) y.lgn (zS y.lg y.lgn)
section
variable {w u : World} {y : OpD} {alg : Option Addr} {clg : Nat} {cs : Array Value} {p1 : Option (Option Addr × Nat)}
theorem Ch5.s (h:Ch5 w u y alg clg cs p1):u.cell? ⟨w.heap.size+1,0,none⟩=some (int i64 5)/\u.cell? ⟨w.heap.size+1,1,none⟩=some (.string y.own)/\u.cell? ⟨w.heap.size+1,2,none⟩=some (int i64 y.name)/\u.cell? ⟨w.heap.size+1,3,none⟩=some (.slice alg y.lgn clg)/\u.cell? ⟨w.heap.size+1,4,none⟩=some (int i64 y.pe)/\u.cell? ⟨w.heap.size+1,5,none⟩=some (int i64 y.len)/\u.cell? ⟨w.heap.size+1,6,none⟩=some (int i64 y.hei)/\u.cell? ⟨w.heap.size+1,7,none⟩=some (int i64 y.cl)/\u.cell? ⟨w.heap.size+1,8,none⟩=some (.bool y.all)/\u.cell? ⟨w.heap.size+1,9,none⟩=some (int i64 y.be)/\u.cell? ⟨w.heap.size+1,10,none⟩=some (int i64 y.unt)/\u.cell? ⟨w.heap.size+1,11,none⟩=some (int i64 y.now):=⟨za h.box 0 _ rfl,za h.box 1 _ rfl,za h.box 2 _ rfl,za h.box 3 _ rfl,za h.box 4 _ rfl,za h.box 5 _ rfl,za h.box 6 _ rfl,za h.box 7 _ rfl,za h.box 8 _ rfl,za h.box 9 _ rfl,za h.box 10 _ rfl,za h.box 11 _ rfl⟩
theorem Ch5.below {d:World}(h:Ch5 w u y alg clg cs p1)(b:Below u.heap.size u d):Ch5 w d y alg clg cs p1:=⟨ze h.bel b,h.ban,h.far,h.pok,h.legs,zb h.bb b,zb h.box b,zb h.res b,fun a c e=>zo b (h.h1 a c e)⟩
theorem Ch5.put (h:Ch5 w u y alg clg cs p1)(i:Nat)(v:Value)(cs':Array Value)(f:cs.setIfInBounds i v=cs'):Ch5 w (u.setCell ⟨w.heap.size,i,none⟩ v) y alg clg cs' p1:=by
 have d:zx u (u.setCell ⟨w.heap.size,i,none⟩ v) (fun b=>b=w.heap.size):=(zx.refl u (fun b=>b=w.heap.size)).set (a:=⟨w.heap.size,i,none⟩) rfl _
 exact⟨h.bel.setCell (p:=⟨w.heap.size,i,none⟩) (Nat.le_refl _) v,h.ban,h.far,h.pok,h.legs,by rw[← f];exact zm h.bb i v,d.blk h.box (by omega),d.blk h.res (by omega),fun a c e=>d.own (h.h1 a c e) (fun g h1 h2=>zQ (h.h1 a c e) h.bb (by decide) g h1 h2)⟩
theorem Ch5.c1 (h:Ch5 w u y alg clg cs none):Calls Tryz.prog 212 #[.slice alg y.lgn clg] u fun e f=>∃ a c,e=.returned (.slice a y.lgn c)/\Hid (Ch5 w f y alg clg cs (some (a,c))):=by
 have h1:=h.pok.2;have hn:1<=y.lgn/\y.lgn<=3:=by unfold In at h1;omega
 obtain⟨b,o,g,_⟩:=h.legs 0 (by omega)
 subst g;refine(zgp ⟨b,o,none⟩ y.lgn clg y.lg u (by omega) (h.legs.below h.bel)).mono ?_
 rintro e f ⟨⟨v,rfl,d⟩,i⟩;obtain⟨a,c,rfl,_⟩:=zp d;have k:=h.below i;exact⟨a,c,rfl,k.bel,k.ban,k.far,k.pok,k.legs,k.bb,k.box,k.res,fun a' c' e=>(by cases e;exact zu d h.bel.size)⟩
theorem Ch5.c2 (h:Ch5 w u y alg clg cs p1)(c:y.kind=5):Calls Tryz.prog 202 #[.agg #[int i64 5,.string y.own,int i64 y.name,.slice alg y.lgn clg,int i64 y.pe,int i64 y.len,int i64 y.hei,int i64 y.cl,.bool y.all,int i64 y.be,int i64 y.unt,int i64 y.now]] u fun e d=>e=.returned (int i64 (zE ⟨y.pe,y.len,y.hei,y.cl,y.all,y.be⟩ y.lgn))/\Hid (Ch5 w d y alg clg cs p1):=by
 have:=zcG y alg clg u (h.ban.below h.bel) (h.far.below h.bel) h.pok;rw[c] at this;exact this.mono fun _ _ ⟨a,b⟩=>⟨a,h.below b⟩
end
theorem changed_5 (b:ql)(n:Option Addr)(m:Nat)(c:Int)(y:OpD)(i:Option Addr)(j:Nat)(w:World)(G:y.kind=5)(M:Zq w)(p:Zu w)(N:QU ⟨y.pe,y.len,y.hei,y.cl,y.all,y.be⟩ y.lgn)(z:zT w i y.lgn y.lg) :
  Calls Tryz.prog 205 #[.agg #[int i64 b.name,int i64 b.who,.string b.own,.slice n b.lgn m,int i64 b.pe,int i64 b.len,int i64 b.hei,int i64 b.cl,.bool b.all,int i64 b.be,int i64 b.state,int i64 b.unt,int i64 b.price],int i64 c,.agg #[int i64 y.kind,.string y.own,int i64 y.name,.slice i y.lgn j,int i64 y.pe,int i64 y.len,int i64 y.hei,int i64 y.cl,.bool y.all,int i64 y.be,int i64 y.unt,int i64 y.now]] w fun e w'=>(∃ la f,e=.returned (.agg #[int i64 b.name,int i64 c,.string b.own,.slice la y.lgn f,int i64 y.pe,int i64 y.len,int i64 y.hei,int i64 y.cl,.bool y.all,int i64 y.be,int i64 b.state,int i64 b.unt,int i64 (zE ⟨y.pe,y.len,y.hei,y.cl,y.all,y.be⟩ y.lgn)])/\w'.ownsRow w.heap.size 3 1 (.slice la y.lgn f) y.lgn (zS y.lg y.lgn))/\Below w.heap.size w w':=by
 have Q:=hI G;rw[G];obtain⟨A,x,C,t⟩:=zaB w (.cells #[int i64 b.name,int i64 b.who,.string b.own,.slice n b.lgn m,int i64 b.pe,int i64 b.len,int i64 b.hei,int i64 b.cl,.bool b.all,int i64 b.be,int i64 b.state,int i64 b.unt,int i64 b.price] 150) (.cells #[int i64 5,.string y.own,int i64 y.name,.slice i y.lgn j,int i64 y.pe,int i64 y.len,int i64 y.hei,int i64 y.cl,.bool y.all,int i64 y.be,int i64 y.unt,int i64 y.now] 47) (.cells #[int i64 0,int i64 0,.string ⟨#[]⟩,.slice none 0 0,int i64 0,int i64 0,int i64 0,int i64 0,.bool false,int i64 0,int i64 0,int i64 0,int i64 0] 150);have r:Below w.heap.size w (((w.alloc (.cells #[int i64 b.name,int i64 b.who,.string b.own,.slice n b.lgn m,int i64 b.pe,int i64 b.len,int i64 b.hei,int i64 b.cl,.bool b.all,int i64 b.be,int i64 b.state,int i64 b.unt,int i64 b.price] 150)).alloc (.cells #[int i64 5,.string y.own,int i64 y.name,.slice i y.lgn j,int i64 y.pe,int i64 y.len,int i64 y.hei,int i64 y.cl,.bool y.all,int i64 y.be,int i64 y.unt,int i64 y.now] 47)).alloc (.cells #[int i64 0,int i64 0,.string ⟨#[]⟩,.slice none 0 0,int i64 0,int i64 0,int i64 0,int i64 0,.bool false,int i64 0,int i64 0,int i64 0,int i64 0] 150)):=zk (zk (zk bZ _) _) _;clear G;go_enter Tryz.func205,Tryz.ntmps205;go_upto_region 1 with fail;generalize ((w.alloc (.cells #[int i64 b.name,int i64 b.who,.string b.own,.slice n b.lgn m,int i64 b.pe,int i64 b.len,int i64 b.hei,int i64 b.cl,.bool b.all,int i64 b.be,int i64 b.state,int i64 b.unt,int i64 b.price] 150)).alloc (.cells #[int i64 5,.string y.own,int i64 y.name,.slice i y.lgn j,int i64 y.pe,int i64 y.len,int i64 y.hei,int i64 y.cl,.bool y.all,int i64 y.be,int i64 y.unt,int i64 y.now] 47)).alloc (.cells #[int i64 0,int i64 0,.string ⟨#[]⟩,.slice none 0 0,int i64 0,int i64 0,int i64 0,int i64 0,.bool false,int i64 0,int i64 0,int i64 0,int i64 0] 150)=V at A x C t r ⊢;have o0:=za x 0 _ rfl;have a:Hid (Ch5 w V.drew y i j #[int i64 b.name,int i64 b.who,.string b.own,.slice n b.lgn m,int i64 b.pe,int i64 b.len,int i64 b.hei,int i64 b.cl,.bool b.all,int i64 b.be,int i64 b.state,int i64 b.unt,int i64 b.price] none):=⟨r.drew,M,p,N,z,zK A,zK x,zK C,fun _ _ e=>(by cases e)⟩
 go_upto_region 5 with fail;clear o0 A x C M p N z r t;refine qg 16 16 (fun u=>u.cell? ⟨w.heap.size+1,0,none⟩=some (int i64 5)/\u.cell? ⟨w.heap.size+1,1,none⟩=some (.string y.own)/\u.cell? ⟨w.heap.size+1,2,none⟩=some (int i64 y.name)/\u.cell? ⟨w.heap.size+1,3,none⟩=some (.slice i y.lgn j)/\u.cell? ⟨w.heap.size+1,4,none⟩=some (int i64 y.pe)/\u.cell? ⟨w.heap.size+1,5,none⟩=some (int i64 y.len)/\u.cell? ⟨w.heap.size+1,6,none⟩=some (int i64 y.hei)/\u.cell? ⟨w.heap.size+1,7,none⟩=some (int i64 y.cl)/\u.cell? ⟨w.heap.size+1,8,none⟩=some (.bool y.all)/\u.cell? ⟨w.heap.size+1,9,none⟩=some (int i64 y.be)/\u.cell? ⟨w.heap.size+1,10,none⟩=some (int i64 y.unt)/\u.cell? ⟨w.heap.size+1,11,none⟩=some (int i64 y.now)) rfl (by kernel_rfl) a.out.s (fun o=>?_)
 simp only[List.replicate_succ,List.replicate_zero];generalize V.drew=u0 at a o ⊢
 (refine tkN 0 (v:=?_) rfl (by kernel_rfl) (fun _ _ _ h=>h) rfl (by assumption) ?_ ?_;rotate_left;(focus(intro w' h;(try dsimp only at h);go_simp;try with_reducible rfl));simp only[Act.put,sB,sZ,sS])
 (refine tkN 1 (v:=?_) rfl (by kernel_rfl) (fun _ _ _ h=>h) rfl (by assumption) ?_ ?_;rotate_left;(focus(intro w' h;(try dsimp only at h);go_simp;try with_reducible rfl));simp only[Act.put,sB,sZ,sS])
 (refine tkN 2 (v:=?_) rfl (by kernel_rfl) (fun _ _ _ h=>h) rfl (by assumption) ?_ ?_;rotate_left;(focus(intro w' h;(try dsimp only at h);go_simp;try with_reducible rfl));simp only[Act.put,sB,sZ,sS])
 (refine tkN 4 (v:=?_) rfl (by kernel_rfl) (fun _ _ _ h=>h) rfl (by assumption) ?_ ?_;rotate_left;(focus(intro w' h;(try dsimp only at h);go_simp;try with_reducible rfl));simp only[Act.put,sB,sZ,sS])
 (refine tkN 5 (v:=?_) rfl (by kernel_rfl) (fun _ _ _ h=>h) rfl (by assumption) ?_ ?_;rotate_left;(focus(intro w' h;(try dsimp only at h);go_simp;try with_reducible rfl));simp only[Act.put,sB,sZ,sS])
 (refine tkN 6 (v:=?_) rfl (by kernel_rfl) (fun _ _ _ h=>h) rfl (by assumption) ?_ ?_;rotate_left;(focus(intro w' h;(try dsimp only at h);go_simp;try with_reducible rfl));simp only[Act.put,sB,sZ,sS])
 (refine tkN 8 (v:=?_) rfl (by kernel_rfl) (fun _ _ _ h=>h) rfl (by assumption) ?_ ?_;rotate_left;(focus(intro w' h;(try dsimp only at h);go_simp;try with_reducible rfl));simp only[Act.put,sB,sZ,sS])
 refine zj (rs:=[3]) (by kernel_rfl) (by simp) ?_
 refine zc.consL rfl (fun K l=>?_) zc.nil
 go_simp;go_at_call 212;refine Calls.mono a.out.c1 ?_;rintro e u1 ⟨la,f,rfl,a⟩;dsimp only;refine l.out _ _ a.out.s (fun o=>?_)
 clear l K;simp only[sZ,sS];refine zj (rs:=[7]) (by kernel_rfl) (by simp) ?_
 refine zc.consL rfl (fun K l=>?_) zc.nil
 go_simp;go_at_call 202;refine Calls.mono (a.out.c2 Q.out) ?_;rintro e u2 ⟨rfl,a⟩;dsimp only;refine l.out _ _ a.out.s (fun o=>?_)
 clear l K;simp only[sZ,sS];have q1:=za a.out.bb 1 _ rfl;have S:=zg a.out.bb 1;refine zj (rs:=[9]) (by kernel_rfl) (by simp) ?_
 refine zc.consL rfl (fun K l=>?_) zc.nil
 go_simp;have d:Hid (Ch5 w (u2.setCell ⟨w.heap.size,1,none⟩ (int i64 c)) y i j #[int i64 b.name,int i64 c,.string b.own,.slice n b.lgn m,int i64 b.pe,int i64 b.len,int i64 b.hei,int i64 b.cl,.bool b.all,int i64 b.be,int i64 b.state,int i64 b.unt,int i64 b.price] (some (la,f))):=(a.out.put 1 (int i64 c) #[int i64 b.name,int i64 c,.string b.own,.slice n b.lgn m,int i64 b.pe,int i64 b.len,int i64 b.hei,int i64 b.cl,.bool b.all,int i64 b.be,int i64 b.state,int i64 b.unt,int i64 b.price] rfl);refine l.out _ _ d.out.s (fun o=>?_)
 clear l K q1 S a;simp only[sZ,sS];generalize u2.setCell ⟨w.heap.size,1,none⟩ (int i64 c)=u3 at d o ⊢;have a:=d;clear d
 (refine tkN 10 (v:=?_) rfl (by kernel_rfl) (fun _ _ _ h=>h) rfl (by assumption) ?_ ?_;rotate_left;(focus(intro w' h;(try dsimp only at h);go_simp;try with_reducible rfl));simp only[Act.put,sB,sZ,sS])
 have q3:=za a.out.bb 3 _ rfl;have T:=zg a.out.bb 3;refine zj (rs:=[11]) (by kernel_rfl) (by simp) ?_
 refine zc.consL rfl (fun K l=>?_) zc.nil
 go_simp;have d:Hid (Ch5 w (u3.setCell ⟨w.heap.size,3,none⟩ (.slice la y.lgn f)) y i j #[int i64 b.name,int i64 c,.string b.own,.slice la y.lgn f,int i64 b.pe,int i64 b.len,int i64 b.hei,int i64 b.cl,.bool b.all,int i64 b.be,int i64 b.state,int i64 b.unt,int i64 b.price] (some (la,f))):=(a.out.put 3 (.slice la y.lgn f) #[int i64 b.name,int i64 c,.string b.own,.slice la y.lgn f,int i64 b.pe,int i64 b.len,int i64 b.hei,int i64 b.cl,.bool b.all,int i64 b.be,int i64 b.state,int i64 b.unt,int i64 b.price] rfl);refine l.out _ _ d.out.s (fun o=>?_)
 clear l K q3 T a;simp only[sZ,sS];generalize u3.setCell ⟨w.heap.size,3,none⟩ (.slice la y.lgn f)=u4 at d o ⊢;have a:=d;clear d
 (refine tkN 12 (v:=?_) rfl (by kernel_rfl) (fun _ _ _ h=>h) rfl (by assumption) ?_ ?_;rotate_left;(focus(intro w' h;(try dsimp only at h);go_simp;try with_reducible rfl));simp only[Act.put,sB,sZ,sS])
 have q4:=za a.out.bb 4 _ rfl;have q5:=za a.out.bb 5 _ rfl;have q6:=za a.out.bb 6 _ rfl;have q7:=za a.out.bb 7 _ rfl;have q8:=za a.out.bb 8 _ rfl;have q9:=za a.out.bb 9 _ rfl;have U:=zg a.out.bb 4;have W:=zg a.out.bb 5;have X:=zg a.out.bb 6;have Y:=zg a.out.bb 7;have Z:=zg a.out.bb 8;have g9:=zg a.out.bb 9;refine zj (rs:=[13]) (by kernel_rfl) (by simp) ?_
 refine zc.consL rfl (fun K l=>?_) zc.nil
 go_simp;have d:Hid (Ch5 w ((((((u4.setCell ⟨w.heap.size,4,none⟩ (int i64 y.pe)).setCell ⟨w.heap.size,5,none⟩ (int i64 y.len)).setCell ⟨w.heap.size,6,none⟩ (int i64 y.hei)).setCell ⟨w.heap.size,7,none⟩ (int i64 y.cl)).setCell ⟨w.heap.size,8,none⟩ (.bool y.all)).setCell ⟨w.heap.size,9,none⟩ (int i64 y.be)) y i j #[int i64 b.name,int i64 c,.string b.own,.slice la y.lgn f,int i64 y.pe,int i64 y.len,int i64 y.hei,int i64 y.cl,.bool y.all,int i64 y.be,int i64 b.state,int i64 b.unt,int i64 b.price] (some (la,f))):=((((((a.out.put 4 (int i64 y.pe) #[int i64 b.name,int i64 c,.string b.own,.slice la y.lgn f,int i64 y.pe,int i64 b.len,int i64 b.hei,int i64 b.cl,.bool b.all,int i64 b.be,int i64 b.state,int i64 b.unt,int i64 b.price] rfl).put 5 (int i64 y.len) #[int i64 b.name,int i64 c,.string b.own,.slice la y.lgn f,int i64 y.pe,int i64 y.len,int i64 b.hei,int i64 b.cl,.bool b.all,int i64 b.be,int i64 b.state,int i64 b.unt,int i64 b.price] rfl).put 6 (int i64 y.hei) #[int i64 b.name,int i64 c,.string b.own,.slice la y.lgn f,int i64 y.pe,int i64 y.len,int i64 y.hei,int i64 b.cl,.bool b.all,int i64 b.be,int i64 b.state,int i64 b.unt,int i64 b.price] rfl).put 7 (int i64 y.cl) #[int i64 b.name,int i64 c,.string b.own,.slice la y.lgn f,int i64 y.pe,int i64 y.len,int i64 y.hei,int i64 y.cl,.bool b.all,int i64 b.be,int i64 b.state,int i64 b.unt,int i64 b.price] rfl).put 8 (.bool y.all) #[int i64 b.name,int i64 c,.string b.own,.slice la y.lgn f,int i64 y.pe,int i64 y.len,int i64 y.hei,int i64 y.cl,.bool y.all,int i64 b.be,int i64 b.state,int i64 b.unt,int i64 b.price] rfl).put 9 (int i64 y.be) #[int i64 b.name,int i64 c,.string b.own,.slice la y.lgn f,int i64 y.pe,int i64 y.len,int i64 y.hei,int i64 y.cl,.bool y.all,int i64 y.be,int i64 b.state,int i64 b.unt,int i64 b.price] rfl);refine l.out _ _ d.out.s (fun o=>?_)
 clear l K q4 U q5 W q6 X q7 Y q8 Z q9 g9 a;simp only[sZ,sS];generalize (((((u4.setCell ⟨w.heap.size,4,none⟩ (int i64 y.pe)).setCell ⟨w.heap.size,5,none⟩ (int i64 y.len)).setCell ⟨w.heap.size,6,none⟩ (int i64 y.hei)).setCell ⟨w.heap.size,7,none⟩ (int i64 y.cl)).setCell ⟨w.heap.size,8,none⟩ (.bool y.all)).setCell ⟨w.heap.size,9,none⟩ (int i64 y.be)=u5 at d o ⊢;have a:=d;clear d
 (refine tkN 14 (v:=?_) rfl (by kernel_rfl) (fun _ _ _ h=>h) rfl (by assumption) ?_ ?_;rotate_left;(focus(intro w' h;(try dsimp only at h);go_simp;try with_reducible rfl));simp only[Act.put,sB,sZ,sS])
 have L:=za a.out.bb 12 _ rfl;have D:=zg a.out.bb 12;refine zj (rs:=[15]) (by kernel_rfl) (by simp) ?_
 refine zc.consL rfl (fun K l=>?_) zc.nil
 go_simp;have d:Hid (Ch5 w (u5.setCell ⟨w.heap.size,12,none⟩ (int i64 (zE ⟨y.pe,y.len,y.hei,y.cl,y.all,y.be⟩ y.lgn))) y i j #[int i64 b.name,int i64 c,.string b.own,.slice la y.lgn f,int i64 y.pe,int i64 y.len,int i64 y.hei,int i64 y.cl,.bool y.all,int i64 y.be,int i64 b.state,int i64 b.unt,int i64 (zE ⟨y.pe,y.len,y.hei,y.cl,y.all,y.be⟩ y.lgn)] (some (la,f))):=(a.out.put 12 (int i64 (zE ⟨y.pe,y.len,y.hei,y.cl,y.all,y.be⟩ y.lgn)) #[int i64 b.name,int i64 c,.string b.own,.slice la y.lgn f,int i64 y.pe,int i64 y.len,int i64 y.hei,int i64 y.cl,.bool y.all,int i64 y.be,int i64 b.state,int i64 b.unt,int i64 (zE ⟨y.pe,y.len,y.hei,y.cl,y.all,y.be⟩ y.lgn)] rfl);refine l.out _ _ d.out.s (fun o=>?_)
 clear l K L D a;simp only[sZ,sS];generalize u5.setCell ⟨w.heap.size,12,none⟩ (int i64 (zE ⟨y.pe,y.len,y.hei,y.cl,y.all,y.be⟩ y.lgn))=u6 at d o ⊢;have a:=d;clear d;refine zX (by kernel_rfl) ?_ _
 have B:=a.out.bb;have q:=a.out.res;have E:=a.out.bel;have s:=a.out.h1 la f rfl;clear a;go_upto_region 12 with fail;refine wp_region_lit ?_;refine wpList_load_row rfl _ _ rfl w.heap.size rfl _ _ (0,0) _ B Tryz.underlying150 rfl Tryz.sizeBk ?_;refine wpList_store_row rfl _ _ _ rfl (w.heap.size+1+1) _ rfl rfl _ _ q Tryz.sizeBk rfl (by simp[Value.oneCell']) ?_
 obtain⟨F,p⟩:∃ F,F=u6.setRow (w.heap.size+1+1) #[int i64 b.name,int i64 c,.string b.own,.slice la y.lgn f,int i64 y.pe,int i64 y.len,int i64 y.hei,int i64 y.cl,.bool y.all,int i64 y.be,int i64 b.state,int i64 b.unt,int i64 (zE ⟨y.pe,y.len,y.hei,y.cl,y.all,y.be⟩ y.lgn)]:=⟨_,rfl⟩;have R:F.heap[w.heap.size+1+1]?=some (.cells #[int i64 b.name,int i64 c,.string b.own,.slice la y.lgn f,int i64 y.pe,int i64 y.len,int i64 y.hei,int i64 y.cl,.bool y.all,int i64 y.be,int i64 b.state,int i64 b.unt,int i64 (zE ⟨y.pe,y.len,y.hei,y.cl,y.all,y.be⟩ y.lgn)] 150 (0,0)):=by rw[p];exact setRow_heap _ _ _ _ _ _ q
 have O:Below w.heap.size w F:=by rw[p];exact below_setRow E (by omega) _
 have J:F.ownsRow w.heap.size 3 1 (.slice la y.lgn f) y.lgn (zS y.lg y.lgn):=by
  have H:zx u6 F (fun b=>b=w.heap.size+1+1):=by rw[p];exact⟨rfl,rfl,rfl,(below_setRow (Below.refl 0 u6) (Nat.zero_le _) _).size,fun k _ I=>setRow_other _ _ _ _ I⟩
  exact H.own s (fun g h1 h2=>zQ s q (by decide) g h1 h2)
 rw[← p];clear p;have z:=run_loadVar_row (P:=Tryz.prog) F (w.heap.size+1+1) 150 150 _ (0,0) _ R Tryz.underlying150 rfl Tryz.sizeBk;go_wp2;exact bodyPost_ret (v:=.agg #[int i64 b.name,int i64 c,.string b.own,.slice la y.lgn f,int i64 y.pe,int i64 y.len,int i64 y.hei,int i64 y.cl,.bool y.all,int i64 y.be,int i64 b.state,int i64 b.unt,int i64 (zE ⟨y.pe,y.len,y.hei,y.cl,y.all,y.be⟩ y.lgn)]) (Qq Tryz.results205 rfl z) rfl ⟨⟨la,f,rfl,J⟩,O⟩
end
section
open Go.RowKit
open Classical in
/-- The lane on which the car is zkl. -/
noncomputable def zbY (p:zH)(n:Nat)(S:Nat->Zp)(x len hei:Int):Option Nat:=if h:∃ k,zdc p n S x len hei k then some h.choose else none
theorem zgH {p:zH}{n:Nat}{S:Nat->Zp}{x len hei:Int}{k:Nat}(h:zdc p n S x len hei k):zbY p n S x len hei=some k:=by
 have a:∃ k,zdc p n S x len hei k:=⟨k,h⟩;unfold zbY;rw[dif_pos a];obtain⟨_,_,_,_,_,_,h1⟩:=h;obtain⟨_,_,_,_,_,_,h2⟩:=a.choose_spec;rw[zex h2 h1]
theorem znj {p:zH}{n:Nat}{S:Nat->Zp}{x len hei:Int}(h:∀ k,¬ zdc p n S x len hei k):zbY p n S x len hei=none:=by
 unfold zbY;rw[dif_neg (fun ⟨k,hk⟩=>h k hk)]
theorem zkk {p:zH}{n:Nat}{S:Nat->Zp}{x len hei:Int}{k:Nat}(h:zbY p n S x len hei=some k):zdc p n S x len hei k:=by
 unfold zbY at h
 split at h
 ·rename_i he
  have:=he.choose_spec;simp only[Option.some.injEq] at h;rw[h] at this;exact this
 ·cases h
noncomputable def zgI (p:zH)(n:Nat)(S:Nat->Zp)(x len hei:Int):Bool:=(zbY p n S x len hei).isSome
noncomputable def zaC (p:zH)(n:Nat)(S:Nat->Zp)(x len hei:Int):Int:=((zbY p n S x len hei).getD 0:Nat)
noncomputable def zdR (p:zH)(n:Nat)(S:Nat->Zp)(x len hei:Int):Nat:=if (zbY p n S x len hei).isSome then n+1 else 0
noncomputable def zkl (p:zH)(n:Nat)(S:Nat->Zp)(x len hei:Int):Nat->Zp:=QI S n (fun _=>⟨x,zaC p n S x len hei,len,hei⟩)
def zgf (w':World)(base t:Nat)(p:zH)(n:Nat)(S:Nat->Zp)(x len hei:Int)(e:Ending):Prop :=
 ∃ v,e=.returned (.tuple #[v,int i64 (zaC p n S x len hei),.bool (zgI p n S x len hei)])/\w'.ownsRow base t 4 v (zdR p n S x len hei) (zy (zkl p n S x len hei) (zdR p n S x len hei))
theorem zcM {w:World}{base t:Nat}{p:zH}{n:Nat}{S:Nat->Zp}{x len hei:Int}(h:∀ k,¬ zdc p n S x len hei k):zgf w base t p n S x len hei (.returned (.tuple #[.slice none 0 0,int i64 0,.bool false])):=by
 have:=znj h;refine⟨.slice none 0 0,?_,?_⟩
 ·unfold zaC zgI;rw[this];rfl
 ·unfold zdR;rw[this];exact⟨rfl,.inl ⟨rfl,rfl⟩⟩
theorem zkm {w:World}{base t:Nat}{p:zH}{n:Nat}{S:Nat->Zp}{x len hei:Int}{k:Nat}{v:Value}(h:zdc p n S x len hei k)
  (a:w.ownsRow base t 4 v (n+1) (zy (QI S n (fun _=>⟨x,(k:Int),len,hei⟩)) (n+1))):zgf w base t p n S x len hei (.returned (.tuple #[v,int i64 (k:Int),.bool true])):=by
 have:=zgH h;refine⟨v,?_,?_⟩
 ·unfold zaC zgI;rw[this];rfl
 ·unfold zkl zaC zdR;rw[this];exact a
theorem zgJ {p:zH}{n:Nat}{S:Nat->Zp}{x len hei:Int}{k:Nat}(hk:k<p.n):zmC p (qy p S n) ⟨x,(k:Int),len,hei⟩↔(In x 1 9999/\In len 1 2000/\In hei 1 500/\hei<=p.B k/\len<=QW p S n k):=by
 rw[zgC]
 constructor
 ·rintro⟨a,b,c,_,e,f⟩
  exact⟨a,b,c,e,f⟩
 ·rintro⟨a,b,c,e,f⟩
  exact⟨a,b,c,⟨by show(0:Int)<=(k:Int);omega,by show(k:Int)<=_;omega⟩,e,f⟩
theorem znk {p:zH}{n:Nat}{S:Nat->Zp}{x len hei:Int}{k:Nat}(i:zfj p n S)(q:n≠60)(m:¬ Has (Qc S) n x)(d:k<p.n)(l:zmC p (qy p S n) ⟨x,(k:Int),len,hei⟩)
  (g:∀ j,j<k->¬ zmC p (qy p S n) ⟨x,(j:Int),len,hei⟩):zdc p n S x len hei k:=by
 obtain⟨a,b,c,e,f⟩:=(zgJ d).1 l;exact⟨i,q,m,a,b,c,d,⟨e,f⟩,fun j o h=>g j o ((zgJ (by omega)).2 ⟨a,b,c,h.1,h.2⟩)⟩
theorem zlT {p:zH}{n:Nat}{S:Nat->Zp}{x len hei:Int}(g:∀ j,j<p.n->¬ zmC p (qy p S n) ⟨x,(j:Int),len,hei⟩):∀ k,¬ zdc p n S x len hei k:=by
 rintro k ⟨_,_,_,a,b,c,d,⟨e,f⟩,_⟩;exact g k d ((zgJ d).2 ⟨a,b,c,e,f⟩)
theorem zhU {S S':Nat->Zp}(k i:Nat)(h:∀ j,j<i->S' j=S j):zkf S' k i=zkf S k i:=by
 induction i with
 | zero=>rfl
 | succ i ih =>
  unfold zkf;rw[ih (fun j hj=>h j (by omega)),h i (by omega)]
theorem zhV {p:zH}{S S':Nat->Zp}(i:Nat)(h:∀ j,j<i->S' j=S j):QW p S' i=QW p S i:=by
 funext k
 unfold QW;rw[zhU k i h]
theorem zgK {F a:Nat->Int}{n:Nat}{x:Int}(h:∀ j,j<n->a j=F j):Has a n x↔Has F n x :=
 ⟨fun ⟨j,hj,e⟩=>⟨j,hj,by rw[← h j hj];exact e⟩,fun ⟨j,hj,e⟩=>⟨j,hj,by rw[h j hj];exact e⟩⟩
theorem zkn {S T:Nat->Zp}{n i:Nat}(h:i<n):QI S n T i=S i:=if_pos h
theorem cat_n {S:Nat->Zp}{n:Nat}{s:Zp}:QI S n (fun _=>s) n=s:=if_neg (by omega)
theorem znl {p:zH}{n:Nat}{S:Nat->Zp}{x len hei:Int}{k:Nat}(h:zdc p n S x len hei k) :
  zfj p (n+1) (QI S n (fun _=>⟨x,(k:Int),len,hei⟩))/\Has (Qc (QI S n (fun _=>⟨x,(k:Int),len,hei⟩))) (n+1) x/\zaj (Qc (QI S n (fun _=>⟨x,(k:Int),len,hei⟩))) x (n+1)=n:=by
 obtain⟨g,hn,m,h1,h2,h3,hk,⟨o,q⟩,_⟩:=h;have l:∀ j,j<n->Qc (QI S n (fun _=>⟨x,(k:Int),len,hei⟩)) j=Qc S j:=fun j d=>by unfold Qc;rw[zkn d]
 have f:Qc (QI S n (fun _=>⟨x,(k:Int),len,hei⟩)) n=x:=by unfold Qc;rw[cat_n]
 refine⟨⟨g.1,by have:=g.2.1;omega,fun i hi=>?_⟩,⟨n,Nat.lt_succ_self _,f⟩,zfe (Nat.lt_succ_self _) f (fun j d=>by rw[l j d];exact fun e=>m ⟨j,d,e⟩)⟩
 by_cases e:i=n
 ·subst e
  rw[cat_n,zhV i (fun j d=>zkn d)]
  refine⟨fun c=>m ((zgK l).1 c),h1,h2,h3,⟨by show(0:Int)<=(k:Int);omega,by show(k:Int)<=_;omega⟩,o,q⟩
 ·have hi':i<n:=by omega
  rw[zkn hi',zhV i (fun j d=>zkn (by omega))]
  obtain⟨a,b⟩:=g.2.2 i hi';exact⟨fun c=>a ((zgK (fun j d=>l j (by omega))).1 c),b⟩
end
theorem zcr {S:Nat->Zp}{r i:Nat}(h:i<r):Zx S r i=S i:=if_pos h
theorem zdS {S:Nat->Zp}{r i:Nat}(h:r<=i):Zx S r i=S (i+1):=if_neg (by omega)
theorem zgL {S:Nat->Zp}{r i:Nat}{x:Int}(h:Has (Qc (Zx S r)) i x):Has (Qc S) (i+1) x:=by
 obtain⟨j,hj,e⟩:=h
 by_cases c:j<r
 ·exact⟨j,by omega,by rw[← e];unfold Qc;rw[zcr c]⟩
 ·exact⟨j+1,by omega,by rw[← e];unfold Qc;rw[zdS (by omega)]⟩
theorem zko (S:Nat->Zp)(r k i:Nat)(h:r<=i):zkf (Zx S r) k i+(if (S r).ln=(k:Int) then (S r).len else 0)=zkf S k (i+1):=by
 induction i with
 | zero =>
  have e:r=0:=by omega
  subst e
  rfl
 | succ i ih =>
  by_cases c:r=i+1
  ·subst c
   rw[zhU k (i+1) (fun j b=>zcr b)]
   rfl
  ·have a:=ih (by omega)
   rw[zkf,zdS (by omega:r<=i)]
   rw[show zkf S k (i+1+1)=zkf S k (i+1)+(if (S (i+1)).ln=(k:Int) then (S (i+1)).len else 0) from rfl,← a]
   omega
theorem zkp {p:zH}{n:Nat}{S:Nat->Zp}{r:Nat}(h:zfj p (n+1) S)(hr:r<=n):zfj p n (Zx S r):=by
 obtain⟨m,hn,g,l⟩:=(QO p (n+1) S).2 h;refine(QO p n _).1 ⟨m,by omega,fun i hi=>?_,fun k o=>?_⟩
 ·by_cases c:i<r
  ·obtain⟨h1,h2,h3,d,e⟩:=g i (by omega)
   unfold OkS;rw[zcr c];refine⟨h1,h2,h3,d,fun f=>e ((zgK (fun j hj=>?_)).1 f)⟩
   unfold Qc;rw[zcr (by omega)]
  ·obtain⟨h1,h2,h3,d,e⟩:=g (i+1) (by omega)
   unfold OkS;rw[zdS (by omega)]
   exact⟨h1,h2,h3,d,fun f=>e (zgL f)⟩
 ·have a:=l k o
  have b:=zko S r k n hr;have c:=(g r (by omega)).2.2.1
  unfold In at c;unfold QW at a ⊢
  split at b <;> omega
theorem ziJ {S:Nat->Zp}{n r:Nat}{x:Int}(hr:r<=n)(b:(S r).who≠x):Has (Qc (Zx S r)) n x↔Has (Qc S) (n+1) x:=by
 refine⟨zgL,?_⟩;rintro⟨j,hj,e⟩
 by_cases c:j<r
 ·exact⟨j,by omega,by rw[← e];unfold Qc;rw[zcr c]⟩
 ·have a:j≠r:=fun q=>b (by rw[← q];exact e)
  refine⟨j - 1,by omega,?_⟩
  rw[← e];unfold Qc;rw[zdS (by omega),show j - 1+1=j by omega]
theorem cover {P:Nat->Prop}{B:Nat->Int}(m:Nat):∀ (n:Nat)(F:Nat->Int),cnt P m=n->(∀ i,i<m->P i->Has F n (B i))->(∀ i,i<m->∀ j,j<i->B j≠B i)->∀ j,j<n->∃ i,i<m/\P i/\B i=F j:=by
 induction m with
 | zero=>intro n F h _ _ j f;rw[cnt] at h;omega
 | succ m ih =>
  intro n F h o l j f
  by_cases c:P m
  ·rw[Qy c] at h
   obtain⟨r,hr,p⟩:=o m (by omega) c
   obtain⟨n,rfl⟩:∃ n',n=n'+1:=⟨n - 1,by omega⟩
   have k:=ih n (Z7 F r) (by omega) (fun i b a=>(zgz (by omega) (fun e=>l m (by omega) i b (by rw[← e,p]))).2 (o i (by omega) a)) (fun i b j f=>l i (by omega) j f)
   by_cases e:j=r
   ·exact⟨m,by omega,c,by rw[e,p]⟩
   ·by_cases d:j<r
    ·obtain⟨i,b,a,g⟩:=k j (by omega)
     exact⟨i,by omega,a,by rw[g,zay d]⟩
    ·obtain⟨i,b,a,g⟩:=k (j - 1) (by omega)
     exact⟨i,by omega,a,by rw[g,zbt (by omega),show j - 1+1=j by omega]⟩
  ·rw[zae c] at h
   obtain⟨i,b,a,g⟩:=ih n F h (fun i b a=>o i (by omega) a) (fun i b j f=>l i (by omega) j f) j f
   exact⟨i,by omega,a,g⟩
theorem Zk.whos {o:Off}(h:Zk o):∀ i,i<o.bkn->∀ j,j<i->(o.bk j).who≠(o.bk i).who:=fun i a j b=>(h.2.2.2.2.1 i a).2.2.2.2.2.2.2.1 j b
theorem Zk.seat_of {o:Off}(h:Zk o){k:Nat}(d:k<o.san){j:Nat}(c:j<(o.ld k).sen):∃ i,i<o.bkn/\On o k i/\(o.bk i).who=((o.ld k).se j).who:=by
 obtain⟨l,_,_,a⟩:=h.2.2.2.2.2 k d;refine cover (P:=On o k) (B:=fun i=>(o.bk i).who) o.bkn _ (zag (o.ld k).se) a.symm (fun i b f=>?_) h.whos j c
 obtain⟨q,g,e,_⟩:=(l i b f).1;exact⟨q,g,e⟩
theorem Zk.stay_of {o:Off}(h:Zk o){k:Nat}(f:k<o.san){j:Nat}(d:j<(o.ld k).stn):∃ i,i<o.bkn/\(On o k i/\0<(o.bk i).len)/\(o.bk i).who=((o.ld k).st j).who:=by
 obtain⟨l,b,_,_⟩:=h.2.2.2.2.2 k f;refine cover (P:=fun i=>On o k i/\0<(o.bk i).len) (B:=fun i=>(o.bk i).who) o.bkn _ (Qc (o.ld k).st) b.symm (fun i c a=>?_) h.whos j d
 rcases (l i c a.1).2.1 with e|⟨q,g,e,_⟩
 ·have:=a.2;omega
 ·exact⟨q,g,e⟩
theorem Zk.room_of {o:Off}(h:Zk o){k:Nat}(f:k<o.san){j:Nat}(d:j<(o.ld k).ron):∃ i,i<o.bkn/\(On o k i/\0<(o.bk i).cl)/\(o.bk i).who=((o.ld k).ro j).who:=by
 obtain⟨l,_,b,_⟩:=h.2.2.2.2.2 k f;refine cover (P:=fun i=>On o k i/\0<(o.bk i).cl) (B:=fun i=>(o.bk i).who) o.bkn _ (ZV (o.ld k).ro) b.symm (fun i c a=>?_) h.whos j d
 rcases (l i c a.1).2.2 with e|⟨q,g,e,_⟩
 ·have:=a.2;omega
 ·exact⟨q,g,e⟩
theorem Zk.fresh {o:Off}(h:Zk o){x:Int}(f:∀ i,i<o.bkn->(o.bk i).who≠x){k:Nat}(d:k<o.san) :
  ¬ Has (zag (o.ld k).se) (o.ld k).sen x/\¬ Has (Qc (o.ld k).st) (o.ld k).stn x/\¬ Has (ZV (o.ld k).ro) (o.ld k).ron x:=by
 refine⟨?_,?_,?_⟩
 ·rintro⟨j,c,e⟩
  obtain⟨i,b,_,a⟩:=h.seat_of d c;exact f i b (a.trans e)
 ·rintro⟨j,c,e⟩
  obtain⟨i,b,_,a⟩:=h.stay_of d c;exact f i b (a.trans e)
 ·rintro⟨j,c,e⟩
  obtain⟨i,b,_,a⟩:=h.room_of d c;exact f i b (a.trans e)
theorem zcs {F:Nat->Int}{n:Nat}{x:Int}(h:∀ i,i<n->¬ Has F i (F i))(f:Has F n x):∃ r,r<n/\F r=x/\∀ j,j<n->j≠r->F j≠x:=by
 obtain⟨r,hr,e⟩:=f;refine⟨r,hr,e,fun j b d a=>?_⟩
 by_cases c:j<r
 ·exact h r hr ⟨j,c,by rw[a,e]⟩
 ·exact h j b ⟨r,by omega,by rw[e,a]⟩
theorem qm.seats_one {s:Zj}{x:zY}(h:qm s x):∀ i,i<x.sen->¬ Has (zag x.se) i (zag x.se i):=fun i a=>(h.2.2.2.2.1 i a).2.1
theorem qm.stays_one {s:Zj}{x:zY}(h:qm s x):∀ i,i<x.stn->¬ Has (Qc x.st) i (Qc x.st i):=fun i a=>(h.1.2.2.1 i a).2.2.2.2
theorem qm.rooms_one {s:Zj}{x:zY}(h:qm s x):∀ i,i<x.ron->¬ Has (ZV x.ro) i (ZV x.ro i):=fun i a=>(h.2.1.2.2.1 i a).1.2.1
theorem Zk.here {o:Off}(h:Zk o){k i:Nat}(d:k<o.san)(b:i<o.bkn)(f:On o k i) :
  Has (zag (o.ld k).se) (o.ld k).sen (o.bk i).who/\(0<(o.bk i).len->Has (Qc (o.ld k).st) (o.ld k).stn (o.bk i).who)/\(0<(o.bk i).cl->Has (ZV (o.ld k).ro) (o.ld k).ron (o.bk i).who):=by
 obtain⟨h1,h2,h3⟩:=(h.2.2.2.2.2 k d).1 i b f;refine⟨?_,fun c=>?_,fun c=>?_⟩
 ·obtain⟨q,a,e,_⟩:=h1
  exact⟨q,a,e⟩
 ·rcases h2 with e|⟨q,a,e,_⟩
  ·omega
  ·exact⟨q,a,e⟩
 ·rcases h3 with e|⟨q,a,e,_⟩
  ·omega
  ·exact⟨q,a,e⟩
end Go.Proofs.YtmdnjgihooflfaaGreatDoor
