/-
  OWN TEXT: SpecUs, SpecWk, PlainDw, PlainDr, PlainDs.
-/
import Derived.Test.YtfallpinmhbemaaGreatDoorB16
namespace Go.Proofs.YtfallpinmhbemaaGreatDoor
open Go.RowKit
open Go.Value (int)
open Go.IntKind (i64)
set_option maxHeartbeats 64000000
set_option maxRecDepth 100000
def zbz (len cl:Int)(r:Nat):Bool:=if r=2 then true else if r=0 then decide (0<len) else decide (0<cl)
theorem zcn (pe len hei cl be:Int)(all:Bool)(r:Nat)(w:World)(hr:r<3) :
  Calls Tryz.prog 138 #[.agg #[int i64 pe,int i64 len,int i64 hei,int i64 cl,.bool all,int i64 be],int i64 (r:Int)] w fun e w'=>e=.returned (.bool (zbz len cl r))/\Below w.heap.size w w':=by
 have c:=heap_alloc_new w (.cells #[int i64 pe,int i64 len,int i64 hei,int i64 cl,.bool all,int i64 be] 25);have a:Below w.heap.size w (w.alloc (.cells #[int i64 pe,int i64 len,int i64 hei,int i64 cl,.bool all,int i64 be] 25)):=zr bZ _;have y1:=za c 1 _ rfl;have y3:=za c 3 _ rfl;have d:r=0∨r=1∨r=2:=by omega
 clear c
 rcases d with rfl|rfl|rfl
 ·by_cases h:0<len
  ·have b:=hI (decide_eq_true h)
   have d1:decide (0<len)=true:=decide_eq_true h;go_enter Tryz.func138,Tryz.ntmps138;go_wp2;go_ret;exact⟨by rw[b.out];rfl,a⟩
  ·have b:=hI (decide_eq_false h)
   have d1:decide (0<len)=false:=decide_eq_false h;go_enter Tryz.func138,Tryz.ntmps138;go_wp2;go_ret;exact⟨by rw[b.out];rfl,a⟩
 ·by_cases h:0<cl
  ·have b:=hI (decide_eq_true h)
   have d1:decide (0<cl)=true:=decide_eq_true h;go_enter Tryz.func138,Tryz.ntmps138;go_wp2;go_ret;exact⟨by rw[b.out];rfl,a⟩
  ·have b:=hI (decide_eq_false h)
   have d1:decide (0<cl)=false:=decide_eq_false h;go_enter Tryz.func138,Tryz.ntmps138;go_wp2;go_ret;exact⟨by rw[b.out];rfl,a⟩
 ·go_enter Tryz.func138,Tryz.ntmps138
  go_wp2;go_ret;exact⟨rfl,a⟩
structure Wk where
 leg:Int
 res:Nat
 goes:Bool
 who:Int
 p:Zf
def wkC (k:Wk):List Value:=[int i64 k.leg,int i64 (k.res:Int),.bool k.goes,int i64 k.who,int i64 k.p.pe,int i64 k.p.len,int i64 k.p.hei,int i64 k.p.cl,.bool k.p.all,int i64 k.p.be]
def zdm (l:List Wk):List Value:=l.flatMap wkC
theorem zco (l:List Wk)(k:Wk):zdm (l++[k])=zdm l++wkC k:=by simp[zdm]
def qL (goes:Bool)(who:Int)(p:Zf)(leg:Int):Nat->List Wk
 | 0=>[]
 | j+1=>if zbz p.len p.cl j=true then qL goes who p leg j++[⟨leg,j,goes,who,p⟩] else qL goes who p leg j
def qZ (goes:Bool)(who:Int)(p:Zf)(F:Nat->Int):Nat->List Wk
 | 0=>[]
 | k+1=>qZ goes who p F k++qL goes who p (F k) 3
theorem zao (goes:Bool)(who:Int)(p:Zf)(leg:Int):∀ j,(qL goes who p leg j).length<=j
 | 0=>Nat.le_refl _
 | j+1=>by
  have ih:=zao goes who p leg j;unfold qL
  split
  ·rw[List.length_append];simp;omega
  ·omega
theorem QX (goes:Bool)(who:Int)(p:Zf)(F:Nat->Int):∀ k,(qZ goes who p F k).length<=3*k
 | 0=>Nat.le_refl _
 | k+1=>by
  have ih:=QX goes who p F k;have h:=zao goes who p (F k) 3;unfold qZ;rw[List.length_append]
  omega
theorem zap {goes:Bool}{who:Int}{p:Zf}{leg:Int}:∀ {j:Nat}{k:Wk},k ∈ qL goes who p leg j->k.leg=leg/\k.res<j/\k.goes=goes/\k.who=who/\k.p=p/\zbz p.len p.cl k.res=true
 | 0,k,h=>by simp[qL] at h
 | j+1,k,h=>by
  unfold qL at h
  split at h
  ·rename_i hu
   rcases List.mem_append.1 h with h|h
   ·obtain⟨a,b,c⟩:=zap h;exact⟨a,by omega,c⟩
   ·simp at h;subst h;exact⟨rfl,Nat.lt_succ_self _,rfl,rfl,rfl,hu⟩
  ·obtain⟨a,b,c⟩:=zap h;exact⟨a,by omega,c⟩
theorem QA {goes:Bool}{who:Int}{p:Zf}{F:Nat->Int}:∀ {n:Nat}{k:Wk},k ∈ qZ goes who p F n->(∃ i,i<n/\k.leg=F i)/\k.res<3/\k.goes=goes/\k.who=who/\k.p=p/\zbz p.len p.cl k.res=true
 | 0,k,h=>by simp[qZ] at h
 | n+1,k,h=>by
  unfold qZ at h
  rcases List.mem_append.1 h with h|h
  ·obtain⟨⟨i,hi,e⟩,c⟩:=QA h;exact⟨⟨i,by omega,e⟩,c⟩
  ·obtain⟨a,c⟩:=zap h;exact⟨⟨n,Nat.lt_succ_self _,a⟩,c⟩
theorem Tryz.infoWork:(Tryz.prog.info? 175).map (fun i=>(i.zero,i.size,i.bytes))=some (some (.agg #[int i64 0,int i64 0,.bool false,int i64 0,int i64 0,int i64 0,int i64 0,int i64 0,.bool false,int i64 0]),10,80):=by kernel_rfl
def Zq (w:World)(base:Nat)(v:Value)(l:List Wk):Prop:=w.ownsRow base 175 10 v l.length (zdm l)
theorem Zq.nil (w:World)(base:Nat):Zq w base (.slice none 0 0) []:=World.ownsRow_nil _ _ _ _
def zaa (k:Int):Prop:=k=5∨k=6∨k=8
instance (k:Int):Decidable (zaa k):=by unfold zaa;exact inferInstance
def qN (x:Off)(a:Int)(y:OpD)(m:Nat):List Wk :=
 (if zaa y.kind then qZ true (x.bk m).who ⟨(x.bk m).pe,(x.bk m).len,(x.bk m).hei,(x.bk m).cl,(x.bk m).all,(x.bk m).be⟩ (x.bk m).lg (x.bk m).lgn else [])++(if zR y.kind then qZ false a ⟨y.pe,y.len,y.hei,y.cl,y.all,y.be⟩ y.lg y.lgn else [])
theorem zgZ (a2 a1 Z O:Option Addr)(N M R a6 a5 a3 a0 m:Nat)(x:Off)(y:OpD)(c:Int)(w:World)(hR:R<=1048576)(h5:zcj R x.bk 1048576)(hl:y.lgn<=1048576)(g7:ZU w Z R x.bk)(g9:IntsAt w O y.lgn y.lg)(hm:zaa y.kind->y.name=(m:Int)+1/\m<R) :
  Calls Tryz.prog 121 #[.agg #[.slice a2 N a6,.slice a1 M a5,.slice Z R a3],int i64 c,.agg #[int i64 y.kind,.string y.own,int i64 y.name,.slice O y.lgn a0,int i64 y.pe,int i64 y.len,int i64 y.hei,int i64 y.cl,.bool y.all,int i64 y.be,int i64 y.unt,int i64 y.now]] w fun e w'=>∃ v,e=.returned v/\Zq w' w.heap.size v (qN x c y m)/\Below w.heap.size w w':=by
 obtain⟨k0,ki,g0,g2,g3⟩:=info_parts Tryz.infoWork;have h9:=hI g7;have i3:=hI h5;have g6:=hI g9;clear g7 h5 g9;have l:Below w.heap.size w ((w.alloc (.cells #[.slice a2 N a6,.slice a1 M a5,.slice Z R a3] 66)).alloc (.cells #[int i64 y.kind,.string y.own,int i64 y.name,.slice O y.lgn a0,int i64 y.pe,int i64 y.len,int i64 y.hei,int i64 y.cl,.bool y.all,int i64 y.be,int i64 y.unt,int i64 y.now] 27)):=zr (zr bZ _) _;have bF:((w.alloc (.cells #[.slice a2 N a6,.slice a1 M a5,.slice Z R a3] 66)).alloc (.cells #[int i64 y.kind,.string y.own,int i64 y.name,.slice O y.lgn a0,int i64 y.pe,int i64 y.len,int i64 y.hei,int i64 y.cl,.bool y.all,int i64 y.be,int i64 y.unt,int i64 y.now] 27)).heap[w.heap.size]?=some (.cells #[.slice a2 N a6,.slice a1 M a5,.slice Z R a3] 66 (0,0)):=ze (heap_alloc_new w _) _;have bO:((w.alloc (.cells #[.slice a2 N a6,.slice a1 M a5,.slice Z R a3] 66)).alloc (.cells #[int i64 y.kind,.string y.own,int i64 y.name,.slice O y.lgn a0,int i64 y.pe,int i64 y.len,int i64 y.hei,int i64 y.cl,.bool y.all,int i64 y.be,int i64 y.unt,int i64 y.now] 27)).heap[w.heap.size+1]?=some (.cells #[int i64 y.kind,.string y.own,int i64 y.name,.slice O y.lgn a0,int i64 y.pe,int i64 y.len,int i64 y.hei,int i64 y.cl,.bool y.all,int i64 y.be,int i64 y.unt,int i64 y.now] 27 (0,0)):=by simpa using heap_alloc_new (w.alloc (.cells #[.slice a2 N a6,.slice a1 M a5,.slice Z R a3] 66)) _
 obtain⟨a,f7⟩:∃ a:Zf,a=⟨y.pe,y.len,y.hei,y.cl,y.all,y.be⟩:=⟨_,rfl⟩;have e8:=hI f7
 by_cases hF:zaa y.kind
 ·obtain⟨h0,f6⟩:=hm hF
  obtain⟨Cc,h4,g8⟩:=h9.out;obtain⟨o,off,f0,H⟩:=h4 m f6;have g4:=hI f0;clear f0;obtain⟨d6,d5,f5,g1,s1⟩:=g8 m f6;have f8:=i3.out m f6;obtain⟨b,e2⟩:∃ b,b=x.bk m:=⟨_,rfl⟩;rw[← e2] at f5 g1 s1 f8;obtain⟨d,e9⟩:∃ d:Zf,d=⟨b.pe,b.len,b.hei,b.cl,b.all,b.be⟩:=⟨_,rfl⟩;have e0:Hid ((zR y.kind->qN x c y m=qZ true b.who d b.lg b.lgn++qZ false c a y.lg y.lgn)/\(¬ zR y.kind->qN x c y m=qZ true b.who d b.lg b.lgn)):=by
   constructor
   ·intro h;unfold qN;rw[if_pos hF,if_pos h,e9,e2,e8.out]
   ·intro h;unfold qN;rw[if_pos hF,if_neg h,e9,e2,List.append_nil]
  have j0:b.lgn<=1048576:=f8.2;have f1:Hid ((qZ true b.who d b.lg b.lgn).length<=3145728):=by have h:=QX true b.who d b.lg b.lgn;show _<=3145728;omega
  rw[f5] at H;have D:=World.block_lt_of_cell? w _ (H 0 (by decide))
  have g5:=hI g1;have i9:=hI e2;have hk:(y.kind == 5)=true∨((y.kind == 5)=false/\(y.kind == 6)=true)∨((y.kind == 5)=false/\(y.kind == 6)=false/\(y.kind == 8)=true):=by
   unfold zaa at hF
   rcases hF with h|h|h <;> rw[h] <;> decide
  rw[h0] at bO l bF ⊢;go_enter Tryz.func121,Tryz.ntmps121;go_upto_region 2 with fail;generalize (w.alloc (.cells #[.slice a2 N a6,.slice a1 M a5,.slice Z R a3] 66)).alloc (.cells #[int i64 y.kind,.string y.own,int i64 ((m:Int)+1),.slice O y.lgn a0,int i64 y.pe,int i64 y.len,int i64 y.hei,int i64 y.cl,.bool y.all,int i64 y.be,int i64 y.unt,int i64 y.now] 27)=V at l bF bO ⊢;have f2:=za bF 2 _ rfl;rw[g4.out] at f2;have o0:=za bO 0 _ rfl;have o2:=za bO 2 _ rfl;have c0:V.cell? ⟨o,off+m*13,none⟩=some (int i64 b.name):=(l.cell (p:=⟨o,off+m*13,none⟩) D).trans (H 0 (by decide))
  have c1:V.cell? ⟨o,off+m*13+1,none⟩=some (int i64 b.who):=(l.cell (p:=⟨o,off+m*13+1,none⟩) D).trans (H 1 (by decide))
  have c2:V.cell? ⟨o,off+m*13+2,none⟩=some (.string b.own):=(l.cell (p:=⟨o,off+m*13+2,none⟩) D).trans (H 2 (by decide))
  have c3:V.cell? ⟨o,off+m*13+3,none⟩=some (.slice d6 b.lgn d5):=(l.cell (p:=⟨o,off+m*13+3,none⟩) D).trans (H 3 (by decide))
  have c4:V.cell? ⟨o,off+m*13+4,none⟩=some (int i64 b.pe):=(l.cell (p:=⟨o,off+m*13+4,none⟩) D).trans (H 4 (by decide))
  have c5:V.cell? ⟨o,off+m*13+5,none⟩=some (int i64 b.len):=(l.cell (p:=⟨o,off+m*13+5,none⟩) D).trans (H 5 (by decide))
  have c6:V.cell? ⟨o,off+m*13+6,none⟩=some (int i64 b.hei):=(l.cell (p:=⟨o,off+m*13+6,none⟩) D).trans (H 6 (by decide))
  have c7:V.cell? ⟨o,off+m*13+7,none⟩=some (int i64 b.cl):=(l.cell (p:=⟨o,off+m*13+7,none⟩) D).trans (H 7 (by decide))
  have c8:V.cell? ⟨o,off+m*13+8,none⟩=some (.bool b.all):=(l.cell (p:=⟨o,off+m*13+8,none⟩) D).trans (H 8 (by decide))
  have c9:V.cell? ⟨o,off+m*13+9,none⟩=some (int i64 b.be):=(l.cell (p:=⟨o,off+m*13+9,none⟩) D).trans (H 9 (by decide))
  have i4:V.cell? ⟨o,off+m*13+10,none⟩=some (int i64 b.state):=(l.cell (p:=⟨o,off+m*13+10,none⟩) D).trans (H 10 (by decide))
  have i5:V.cell? ⟨o,off+m*13+11,none⟩=some (int i64 b.unt):=(l.cell (p:=⟨o,off+m*13+11,none⟩) D).trans (H 11 (by decide))
  have i6:V.cell? ⟨o,off+m*13+12,none⟩=some (int i64 b.price):=(l.cell (p:=⟨o,off+m*13+12,none⟩) D).trans (H 12 (by decide))
  have i0:(0:Int)<=(m:Int):=by omega
  have i1:(m:Int)<(R:Int):=by omega
  have i7:IntKind.i64.wrap ((m:Int)+1 - 1)=(m:Int):=by rw[IntKind.wrap_i64];omega
  have bX:=heap_alloc_new V (.cells #[int i64 b.name,int i64 b.who,.string b.own,.slice d6 b.lgn d5,int i64 b.pe,int i64 b.len,int i64 b.hei,int i64 b.cl,.bool b.all,int i64 b.be,int i64 b.state,int i64 b.unt,int i64 b.price] 131);have pX:Below V.heap.size V (V.alloc (.cells #[int i64 b.name,int i64 b.who,.string b.own,.slice d6 b.lgn d5,int i64 b.pe,int i64 b.len,int i64 b.hei,int i64 b.cl,.bool b.all,int i64 b.be,int i64 b.state,int i64 b.unt,int i64 b.price] 131)):=zr bZ _;clear H f5 g1 s1 f8 h4 g8 e2;go_cut [27] (fun v wx=>v=.bool true/\wx=V)
  case first =>
   rcases hk with h|⟨h,h6⟩|⟨h,h6,h8⟩
   all_goals
    go_wp2;go_meet;exact⟨rfl,rfl⟩
  case rest =>
  obtain⟨rfl,f9⟩:=hcut;have f9:=f9.symm;subst f9;clear hk o0;have i2:=hI bO;go_upto_region 4 with fail;have BO:Hid ((V.alloc (.cells #[int i64 b.name,int i64 b.who,.string b.own,.slice d6 b.lgn d5,int i64 b.pe,int i64 b.len,int i64 b.hei,int i64 b.cl,.bool b.all,int i64 b.be,int i64 b.state,int i64 b.unt,int i64 b.price] 131)).heap[w.heap.size+1]?=some (.cells #[int i64 y.kind,.string y.own,int i64 y.name,.slice O y.lgn a0,int i64 a.pe,int i64 a.len,int i64 a.hei,int i64 a.cl,.bool a.all,int i64 a.be,int i64 y.unt,int i64 y.now] 27 (0,0))):=by rw[e8.out,h0];exact ze bO _
  have BX:Hid ((V.alloc (.cells #[int i64 b.name,int i64 b.who,.string b.own,.slice d6 b.lgn d5,int i64 b.pe,int i64 b.len,int i64 b.hei,int i64 b.cl,.bool b.all,int i64 b.be,int i64 b.state,int i64 b.unt,int i64 b.price] 131)).heap[V.heap.size]?=some (.cells #[int i64 b.name,int i64 b.who,.string b.own,.slice d6 b.lgn d5,int i64 d.pe,int i64 d.len,int i64 d.hei,int i64 d.cl,.bool d.all,int i64 d.be,int i64 b.state,int i64 b.unt,int i64 b.price] 131 (0,0))):=by rw[e9];exact bX
  have g:=hI (zj l pX);generalize V.heap.size=xb at BX bX ⊢;generalize V.alloc (.cells #[int i64 b.name,int i64 b.who,.string b.own,.slice d6 b.lgn d5,int i64 b.pe,int i64 b.len,int i64 b.hei,int i64 b.cl,.bool b.all,int i64 b.be,int i64 b.state,int i64 b.unt,int i64 b.price] 131)=W at bX pX BO BX g ⊢;clear c0 c1 c2 c3 c4 c5 c6 c7 c8 c9 i4 i5 i6 f2 o2 bO bF l pX i2 i0 i1 i7;have x3:=za bX 3 _ rfl;have d9:=hI (g5.out.below g.out);have f4:=hI (g6.out.below g.out);have E:Hid (Zq W W.heap.size (.slice none 0 0) []):=Zq.nil _ _;have a8:=hI bZ;have e1:([]:List Wk).length<=3145728:=Nat.zero_le _;have a7:W.heap.size<=W.heap.size:=Nat.le_refl _;clear bX f7 e9;go_wp2;clear x3;go_loopw [7,10,11,38] (fun v _ _ i s=>∃ k:Nat,k<=b.lgn/\i=int i64 k/\Hid (Zq s W.heap.size v ([]++qZ true b.who d b.lg k))/\Hid (Below W.heap.size W s)) (fun _ _ _ i _=>b.lgn - (intOf i).toNat)
  case atStart=>exact⟨0,Nat.zero_le _,rfl,(by show Zq _ _ _ ([]++[]);rw[List.append_nil];exact E.out),a8.out⟩
  case round =>
   clear E a8;obtain⟨k,hk,rfl,G,n⟩:=hrel
   by_cases hlt:k<b.lgn
   ·obtain⟨o,go,e3,U⟩:=d9.out k hlt
    subst e3;have H:s.cell? ⟨o,go+k,none⟩=some (int i64 (b.lg k)):=(n.out.cell (p:=⟨o,go+k,none⟩) (World.block_lt_of_cell? W _ U)).trans U;obtain⟨leg,q⟩:∃ leg,leg=b.lg k:=⟨_,rfl⟩;rw[← q] at H;have a9:=hI q;have e5:([]++qZ true b.who d b.lg k).length<=3145728+3*k:=by have h1:=QX true b.who d b.lg k;have h2:=e1;rw[List.length_append];omega
    obtain⟨P,hP⟩:∃ P,P=[]++qZ true b.who d b.lg k:=⟨_,rfl⟩;rw[← hP] at e5;have HP:=hI hP;have b5:Hid (Zq s W.heap.size u7 P):=by rw[hP];exact G.out
    clear q hP G U;go_wp2;clear H;obtain⟨wo,e7⟩:∃ z,z=s:=⟨_,rfl⟩;subst e7;go_loopw [7,11] (fun v r s=>∃ j:Nat,j<=3/\r=int i64 j/\Hid (Zq s W.heap.size v (P++qL true b.who d leg j))/\Hid (Below W.heap.size W s)) (fun _ r _=>3 - (intOf r).toNat)
    case atStart=>exact⟨0,Nat.zero_le _,rfl,(by show Zq _ _ _ (P++[]);rw[List.append_nil];exact b5.out),n.out⟩
    case round =>
     clear b5 n;obtain⟨j,hj,rfl,C,A⟩:=hrel
     by_cases hj3:j<3
     ·have f:=zc BX.out A.out
      have y1:=za f 1 _ rfl;have y4:=za f 4 _ rfl;have y5:=za f 5 _ rfl;have y6:=za f 6 _ rfl;have y7:=za f 7 _ rfl;have y8:=za f 8 _ rfl;have y9:=za f 9 _ rfl;have e4:=zao true b.who d leg j;obtain⟨Q,hQ⟩:∃ Q,Q=P++qL true b.who d leg j:=⟨_,rfl⟩;have h3:Q.length<=3145731+3*k:=by rw[hQ,List.length_append];omega
      rw[← hQ] at C;have HQ:=hI hQ;clear hQ e4;have cu:=zcn d.pe d.len d.hei d.cl d.be d.all j s hj3;obtain⟨ub,Y⟩:∃ ub,ub=zbz d.len d.cl j:=⟨_,rfl⟩;rw[← Y] at cu;have b6:=hI Y.symm;clear Y;go_wp2_with fail;refine cu.mono ?_;clear cu;rintro e F ⟨rfl,T⟩;have B:=hI (zm T C.out);have J:=hI (zj A.out T);clear C A T y1 y4 y5 y6 y7 y8 y9 f
      cases ub with
      | false =>
       have HF:Hid (Zq F W.heap.size u7 (P++qL true b.who d leg (j+1))):=by
        have e:qL true b.who d leg (j+1)=qL true b.who d leg j:=by rw[qL,if_neg (by rw[b6.out];decide)]
        rw[e,← HQ.out];exact B.out
       go_wp2;go_roundw
       case rel=>exact⟨j+1,by omega,by go_num,HF.out,J.out⟩
       case measure=>simp[intOf];omega
      | true =>
       have f:=zc BX.out J.out;have y1:=za f 1 _ rfl;have y4:=za f 4 _ rfl;have y5:=za f 5 _ rfl;have y6:=za f 6 _ rfl;have y7:=za f 7 _ rfl;have y8:=za f 8 _ rfl;have y9:=za f 9 _ rfl;obtain⟨qa,qc,X,_⟩:=zt B.out;have X:u7=.slice qa Q.length qc:=X;subst X;have K:Hid (Zq (F.alloc (.cells #[int i64 leg,int i64 (j:Int),.bool true,int i64 b.who,int i64 d.pe,int i64 d.len,int i64 d.hei,int i64 d.cl,.bool d.all,int i64 d.be] 175)) W.heap.size (.slice qa Q.length qc) Q):=zm (zr bZ _) B.out;have t:Hid (Below W.heap.size W (F.alloc (.cells #[int i64 leg,int i64 (j:Int),.bool true,int i64 b.who,int i64 d.pe,int i64 d.len,int i64 d.hei,int i64 d.cl,.bool d.all,int i64 d.be] 175))):=zr J.out _;have e6:W.heap.size<=(F.alloc (.cells #[int i64 leg,int i64 (j:Int),.bool true,int i64 b.who,int i64 d.pe,int i64 d.len,int i64 d.hei,int i64 d.cl,.bool d.all,int i64 d.be] 175)).heap.size:=Nat.le_trans a7 t.out.size;have b0:Hid (∀ m u,([int i64 leg,int i64 (j:Int),.bool true,int i64 b.who,int i64 d.pe,int i64 d.len,int i64 d.hei,int i64 d.cl,.bool d.all,int i64 d.be]:List Value)[m]?=some u->(F.alloc (.cells #[int i64 leg,int i64 (j:Int),.bool true,int i64 b.who,int i64 d.pe,int i64 d.len,int i64 d.hei,int i64 d.cl,.bool d.all,int i64 d.be] 175)).cell? ((⟨F.heap.size,0,none⟩:Addr).add m)=some u):=World.news_of_block (heap_alloc_new F _);clear B f;go_wp2_with (first|(at_builtin;refine zz _ (by rfl) (.tmp 50) (.tmp 58) 172 (by rfl) W.heap.size 175 k0 (.agg #[int i64 0,int i64 0,.bool false,int i64 0,int i64 0,int i64 0,int i64 0,int i64 0,.bool false,int i64 0]) 10 80 Tryz.underlying172 ki g0 g2 g3 rfl (by decide) _ Q.length (zdm Q) (by rfl) K.out (some ⟨F.heap.size,0,none⟩) 1 1 [int i64 leg,int i64 (j:Int),.bool true,int i64 b.who,int i64 d.pe,int i64 d.len,int i64 d.hei,int i64 d.cl,.bool d.all,int i64 d.be] (by rfl) (fun h=>(by cases h)) (by rfl) (fun ad e=>by cases e;exact b0.out) (by intro u hu;simp at hu;rcases hu with rfl|rfl|rfl|rfl|rfl|rfl|rfl|rfl|rfl|rfl <;> rfl) (by unfold maxLen;omega) (by omega) e6 ?_;intro v9 w9 b8 b7))
       have HF:Hid (Zq w9 W.heap.size v9 (P++qL true b.who d leg (j+1))):=by
        have e:P++qL true b.who d leg (j+1)=Q++[⟨leg,j,true,b.who,d⟩]:=by rw[HQ.out,List.append_assoc];congr 1;rw[qL,if_pos b6.out]
        show w9.ownsRow _ _ 10 v9 _ _
        rw[e,zco,List.length_append];exact b8
       have d7:Hid (Below W.heap.size W w9):=t.out.grown b7 t.out.size (fun b hb=>by have:=(K.out.lt b hb).1;omega)
       clear y1 y4 y5 y6 y7 y8 y9 b8 b7 K t b0;go_wp2;go_roundw
       case rel=>exact⟨j+1,by omega,by go_num,HF.out,d7.out⟩
       case measure=>simp[intOf];omega
     ·obtain rfl:j=3:=by omega
      have HF:Hid (Zq s W.heap.size u7 ([]++qZ true b.who d b.lg (k+1))):=by
       have e:[]++qZ true b.who d b.lg (k+1)=P++qL true b.who d leg 3:=by rw[HP.out,a9.out,List.append_assoc];rfl
       rw[e];exact C.out
      go_wp2;go_roundw
      case rel=>exact⟨k+1,by omega,by go_num,HF.out,A.out⟩
      case measure=>simp[intOf];omega
   ·obtain rfl:k=b.lgn:=by omega
    have L:=hI G;have I:=hI n;clear G n hlt hk
    by_cases hL:zR y.kind
    ·have dL:decide (zR y.kind)=true:=decide_eq_true hL
     have d8:Hid (∀ (z:World) (v:Value),Zq z W.heap.size v ((qZ true b.who d b.lg b.lgn)++qZ false c a y.lg y.lgn)->Below W.heap.size W z->Zq z w.heap.size v (qN x c y m)):=fun z v h _=>by
      have e:qN x c y m=(qZ true b.who d b.lg b.lgn)++qZ false c a y.lg y.lgn:=e0.out.1 hL;rw[e];exact zE h g.out.size
     have S:=zc BO.out I.out;have o0:=za S 0 _ rfl;have o3:=za S 3 _ rfl;go_wp2_with (first|(go_at_call 44;refine sC (zY _ _) ?_))
     clear o0 o3 S hL dL;have BX:Hid _:=BO;have d9:=hI f4;have E:=hI L;have a8:=hI I;have e1:((qZ true b.who d b.lg b.lgn)).length<=3145728:=f1.out;clear L I;go_loopw [7,13,14,67] (fun v _ _ i s=>∃ k:Nat,k<=y.lgn/\i=int i64 k/\Hid (Zq s W.heap.size v ((qZ true b.who d b.lg b.lgn)++qZ false c a y.lg k))/\Hid (Below W.heap.size W s)) (fun _ _ _ i _=>y.lgn - (intOf i).toNat)
     case atStart=>exact⟨0,Nat.zero_le _,rfl,(by show Zq _ _ _ ((qZ true b.who d b.lg b.lgn)++[]);rw[List.append_nil];exact E.out),a8.out⟩
     case round =>
      clear E a8;obtain⟨k,hk,rfl,G,n⟩:=hrel
      by_cases hlt:k<y.lgn
      ·obtain⟨o,go,e3,U⟩:=d9.out k hlt
       subst e3;have H:s.cell? ⟨o,go+k,none⟩=some (int i64 (y.lg k)):=(n.out.cell (p:=⟨o,go+k,none⟩) (World.block_lt_of_cell? W _ U)).trans U;obtain⟨leg,q⟩:∃ leg,leg=y.lg k:=⟨_,rfl⟩;rw[← q] at H;have a9:=hI q;have e5:((qZ true b.who d b.lg b.lgn)++qZ false c a y.lg k).length<=3145728+3*k:=by have h1:=QX false c a y.lg k;have h2:=e1;rw[List.length_append];omega
       obtain⟨P,hP⟩:∃ P,P=(qZ true b.who d b.lg b.lgn)++qZ false c a y.lg k:=⟨_,rfl⟩;rw[← hP] at e5;have HP:=hI hP;have b5:Hid (Zq s W.heap.size u7 P):=by rw[hP];exact G.out
       clear q hP G U;go_wp2;clear H;obtain⟨wo,e7⟩:∃ z,z=s:=⟨_,rfl⟩;subst e7;go_loopw [7,14] (fun v r s=>∃ j:Nat,j<=3/\r=int i64 j/\Hid (Zq s W.heap.size v (P++qL false c a leg j))/\Hid (Below W.heap.size W s)) (fun _ r _=>3 - (intOf r).toNat)
       case atStart=>exact⟨0,Nat.zero_le _,rfl,(by show Zq _ _ _ (P++[]);rw[List.append_nil];exact b5.out),n.out⟩
       case round =>
        clear b5 n;obtain⟨j,hj,rfl,C,A⟩:=hrel
        by_cases hj3:j<3
        ·have f:=zc BX.out A.out
         have y4:=za f 4 _ rfl;have y5:=za f 5 _ rfl;have y6:=za f 6 _ rfl;have y7:=za f 7 _ rfl;have y8:=za f 8 _ rfl;have y9:=za f 9 _ rfl;have e4:=zao false c a leg j;obtain⟨Q,hQ⟩:∃ Q,Q=P++qL false c a leg j:=⟨_,rfl⟩;have h3:Q.length<=3145731+3*k:=by rw[hQ,List.length_append];omega
         rw[← hQ] at C;have HQ:=hI hQ;clear hQ e4;have cu:=zcn a.pe a.len a.hei a.cl a.be a.all j s hj3;obtain⟨ub,Y⟩:∃ ub,ub=zbz a.len a.cl j:=⟨_,rfl⟩;rw[← Y] at cu;have b6:=hI Y.symm;clear Y;go_wp2_with fail;refine cu.mono ?_;clear cu;rintro e F ⟨rfl,T⟩;have B:=hI (zm T C.out);have J:=hI (zj A.out T);clear C A T y4 y5 y6 y7 y8 y9 f
         cases ub with
         | false =>
          have HF:Hid (Zq F W.heap.size u7 (P++qL false c a leg (j+1))):=by
           have e:qL false c a leg (j+1)=qL false c a leg j:=by rw[qL,if_neg (by rw[b6.out];decide)]
           rw[e,← HQ.out];exact B.out
          go_wp2;go_roundw
          case rel=>exact⟨j+1,by omega,by go_num,HF.out,J.out⟩
          case measure=>simp[intOf];omega
         | true =>
          have f:=zc BX.out J.out;have y4:=za f 4 _ rfl;have y5:=za f 5 _ rfl;have y6:=za f 6 _ rfl;have y7:=za f 7 _ rfl;have y8:=za f 8 _ rfl;have y9:=za f 9 _ rfl;obtain⟨qa,qc,X,_⟩:=zt B.out;have X:u7=.slice qa Q.length qc:=X;subst X;have K:Hid (Zq (F.alloc (.cells #[int i64 leg,int i64 (j:Int),.bool false,int i64 c,int i64 a.pe,int i64 a.len,int i64 a.hei,int i64 a.cl,.bool a.all,int i64 a.be] 175)) W.heap.size (.slice qa Q.length qc) Q):=zm (zr bZ _) B.out;have t:Hid (Below W.heap.size W (F.alloc (.cells #[int i64 leg,int i64 (j:Int),.bool false,int i64 c,int i64 a.pe,int i64 a.len,int i64 a.hei,int i64 a.cl,.bool a.all,int i64 a.be] 175))):=zr J.out _;have e6:W.heap.size<=(F.alloc (.cells #[int i64 leg,int i64 (j:Int),.bool false,int i64 c,int i64 a.pe,int i64 a.len,int i64 a.hei,int i64 a.cl,.bool a.all,int i64 a.be] 175)).heap.size:=Nat.le_trans a7 t.out.size;have b0:Hid (∀ m u,([int i64 leg,int i64 (j:Int),.bool false,int i64 c,int i64 a.pe,int i64 a.len,int i64 a.hei,int i64 a.cl,.bool a.all,int i64 a.be]:List Value)[m]?=some u->(F.alloc (.cells #[int i64 leg,int i64 (j:Int),.bool false,int i64 c,int i64 a.pe,int i64 a.len,int i64 a.hei,int i64 a.cl,.bool a.all,int i64 a.be] 175)).cell? ((⟨F.heap.size,0,none⟩:Addr).add m)=some u):=World.news_of_block (heap_alloc_new F _);clear B f;go_wp2_with (first|(at_builtin;refine zz _ (by rfl) (.tmp 79) (.tmp 86) 172 (by rfl) W.heap.size 175 k0 (.agg #[int i64 0,int i64 0,.bool false,int i64 0,int i64 0,int i64 0,int i64 0,int i64 0,.bool false,int i64 0]) 10 80 Tryz.underlying172 ki g0 g2 g3 rfl (by decide) _ Q.length (zdm Q) (by rfl) K.out (some ⟨F.heap.size,0,none⟩) 1 1 [int i64 leg,int i64 (j:Int),.bool false,int i64 c,int i64 a.pe,int i64 a.len,int i64 a.hei,int i64 a.cl,.bool a.all,int i64 a.be] (by rfl) (fun h=>(by cases h)) (by rfl) (fun ad e=>by cases e;exact b0.out) (by intro u hu;simp at hu;rcases hu with rfl|rfl|rfl|rfl|rfl|rfl|rfl|rfl|rfl|rfl <;> rfl) (by unfold maxLen;omega) (by omega) e6 ?_;intro v9 w9 b8 b7))
          have HF:Hid (Zq w9 W.heap.size v9 (P++qL false c a leg (j+1))):=by
           have e:P++qL false c a leg (j+1)=Q++[⟨leg,j,false,c,a⟩]:=by rw[HQ.out,List.append_assoc];congr 1;rw[qL,if_pos b6.out]
           show w9.ownsRow _ _ 10 v9 _ _
           rw[e,zco,List.length_append];exact b8
          have d7:Hid (Below W.heap.size W w9):=t.out.grown b7 t.out.size (fun b hb=>by have:=(K.out.lt b hb).1;omega)
          clear y4 y5 y6 y7 y8 y9 b8 b7 K t b0;go_wp2;go_roundw
          case rel=>exact⟨j+1,by omega,by go_num,HF.out,d7.out⟩
          case measure=>simp[intOf];omega
        ·obtain rfl:j=3:=by omega
         have HF:Hid (Zq s W.heap.size u7 ((qZ true b.who d b.lg b.lgn)++qZ false c a y.lg (k+1))):=by
          have e:(qZ true b.who d b.lg b.lgn)++qZ false c a y.lg (k+1)=P++qL false c a leg 3:=by rw[HP.out,a9.out,List.append_assoc];rfl
          rw[e];exact C.out
         go_wp2;go_roundw
         case rel=>exact⟨k+1,by omega,by go_num,HF.out,A.out⟩
         case measure=>simp[intOf];omega
      ·obtain rfl:k=y.lgn:=by omega
       have d0:Hid (Zq _ w.heap.size _ (qN x c y m)):=d8.out _ _ G.out n.out;have b9:=hI (zj g.out n.out);go_wp2;go_ret;exact⟨_,rfl,d0.out,b9.out⟩
    ·have dL:decide (zR y.kind)=false:=decide_eq_false hL
     have d0:Hid (Zq s w.heap.size u7 (qN x c y m)):=by
      have e:qN x c y m=(qZ true b.who d b.lg b.lgn):=e0.out.2 hL;rw[e];exact zE L.out g.out.size
     have b9:=hI (zj g.out I.out);have S:=zc BO.out I.out;have o0:=za S 0 _ rfl;go_wp2_with (first|(go_at_call 44;refine sC (zY _ _) ?_))
     go_ret;exact⟨_,rfl,d0.out,b9.out⟩
 ·have e0:Hid ((zR y.kind->qN x c y m=([]:List Wk)++qZ false c a y.lg y.lgn)/\(¬ zR y.kind->qN x c y m=([]:List Wk))):=by
   constructor
   ·intro h;unfold qN;rw[if_neg hF,if_pos h,e8.out]
   ·intro h;unfold qN;rw[if_neg hF,if_neg h];rfl
  have k5:(y.kind == 5)=false:=by rw[beq_eq_false_iff_ne];intro h;exact hF (.inl h)
  have k6:(y.kind == 6)=false:=by rw[beq_eq_false_iff_ne];intro h;exact hF (.inr (.inl h))
  have k8:(y.kind == 8)=false:=by rw[beq_eq_false_iff_ne];intro h;exact hF (.inr (.inr h))
  have f1:Hid (([]:List Wk).length<=3145728):=Nat.zero_le _;go_enter Tryz.func121,Tryz.ntmps121;go_upto_region 2 with fail;have BO:Hid (((w.alloc (.cells #[.slice a2 N a6,.slice a1 M a5,.slice Z R a3] 66)).alloc (.cells #[int i64 y.kind,.string y.own,int i64 y.name,.slice O y.lgn a0,int i64 y.pe,int i64 y.len,int i64 y.hei,int i64 y.cl,.bool y.all,int i64 y.be,int i64 y.unt,int i64 y.now] 27)).heap[w.heap.size+1]?=some (.cells #[int i64 y.kind,.string y.own,int i64 y.name,.slice O y.lgn a0,int i64 a.pe,int i64 a.len,int i64 a.hei,int i64 a.cl,.bool a.all,int i64 a.be,int i64 y.unt,int i64 y.now] 27 (0,0))):=by rw[e8.out];exact bO
  have g:=hI l;generalize (w.alloc (.cells #[.slice a2 N a6,.slice a1 M a5,.slice Z R a3] 66)).alloc (.cells #[int i64 y.kind,.string y.own,int i64 y.name,.slice O y.lgn a0,int i64 y.pe,int i64 y.len,int i64 y.hei,int i64 y.cl,.bool y.all,int i64 y.be,int i64 y.unt,int i64 y.now] 27)=W at l bF bO BO g ⊢;have i8:=za bO 0 _ rfl;have f4:=hI (g6.out.below g.out);have L:Hid (Zq W W.heap.size (.slice none 0 0) ([]:List Wk)):=Zq.nil _ _;have I:=hI bZ;have a7:W.heap.size<=W.heap.size:=Nat.le_refl _;clear bF bO l hF f7 hm;go_upto_region 13 with fail;clear i8 k5 k6 k8
  by_cases hL:zR y.kind
  ·have dL:decide (zR y.kind)=true:=decide_eq_true hL
   have d8:Hid (∀ (z:World) (v:Value),Zq z W.heap.size v (([]:List Wk)++qZ false c a y.lg y.lgn)->Below W.heap.size W z->Zq z w.heap.size v (qN x c y m)):=fun z v h _=>by
    have e:qN x c y m=([]:List Wk)++qZ false c a y.lg y.lgn:=e0.out.1 hL;rw[e];exact zE h g.out.size
   have S:=zc BO.out I.out;have o0:=za S 0 _ rfl;have o3:=za S 3 _ rfl;go_wp2_with (first|(go_at_call 44;refine sC (zY _ _) ?_))
   clear o0 o3 S hL dL;have BX:Hid _:=BO;have d9:=hI f4;have E:=hI L;have a8:=hI I;have e1:(([]:List Wk)).length<=3145728:=f1.out;clear L I;go_loopw [7,13,14,67] (fun v _ _ i s=>∃ k:Nat,k<=y.lgn/\i=int i64 k/\Hid (Zq s W.heap.size v (([]:List Wk)++qZ false c a y.lg k))/\Hid (Below W.heap.size W s)) (fun _ _ _ i _=>y.lgn - (intOf i).toNat)
   case atStart=>exact⟨0,Nat.zero_le _,rfl,(by show Zq _ _ _ (([]:List Wk)++[]);rw[List.append_nil];exact E.out),a8.out⟩
   case round =>
    clear E a8;obtain⟨k,hk,rfl,G,n⟩:=hrel
    by_cases hlt:k<y.lgn
    ·obtain⟨o,go,e3,U⟩:=d9.out k hlt
     subst e3;have H:s.cell? ⟨o,go+k,none⟩=some (int i64 (y.lg k)):=(n.out.cell (p:=⟨o,go+k,none⟩) (World.block_lt_of_cell? W _ U)).trans U;obtain⟨leg,q⟩:∃ leg,leg=y.lg k:=⟨_,rfl⟩;rw[← q] at H;have a9:=hI q;have e5:(([]:List Wk)++qZ false c a y.lg k).length<=3145728+3*k:=by have h1:=QX false c a y.lg k;have h2:=e1;rw[List.length_append];omega
     obtain⟨P,hP⟩:∃ P,P=([]:List Wk)++qZ false c a y.lg k:=⟨_,rfl⟩;rw[← hP] at e5;have HP:=hI hP;have b5:Hid (Zq s W.heap.size u7 P):=by rw[hP];exact G.out
     clear q hP G U;go_wp2;clear H;obtain⟨wo,e7⟩:∃ z,z=s:=⟨_,rfl⟩;subst e7;go_loopw [7,14] (fun v r s=>∃ j:Nat,j<=3/\r=int i64 j/\Hid (Zq s W.heap.size v (P++qL false c a leg j))/\Hid (Below W.heap.size W s)) (fun _ r _=>3 - (intOf r).toNat)
     case atStart=>exact⟨0,Nat.zero_le _,rfl,(by show Zq _ _ _ (P++[]);rw[List.append_nil];exact b5.out),n.out⟩
     case round =>
      clear b5 n;obtain⟨j,hj,rfl,C,A⟩:=hrel
      by_cases hj3:j<3
      ·have f:=zc BX.out A.out
       have y4:=za f 4 _ rfl;have y5:=za f 5 _ rfl;have y6:=za f 6 _ rfl;have y7:=za f 7 _ rfl;have y8:=za f 8 _ rfl;have y9:=za f 9 _ rfl;have e4:=zao false c a leg j;obtain⟨Q,hQ⟩:∃ Q,Q=P++qL false c a leg j:=⟨_,rfl⟩;have h3:Q.length<=3145731+3*k:=by rw[hQ,List.length_append];omega
       rw[← hQ] at C;have HQ:=hI hQ;clear hQ e4;have cu:=zcn a.pe a.len a.hei a.cl a.be a.all j s hj3;obtain⟨ub,Y⟩:∃ ub,ub=zbz a.len a.cl j:=⟨_,rfl⟩;rw[← Y] at cu;have b6:=hI Y.symm;clear Y;go_wp2_with fail;refine cu.mono ?_;clear cu;rintro e F ⟨rfl,T⟩;have B:=hI (zm T C.out);have J:=hI (zj A.out T);clear C A T y4 y5 y6 y7 y8 y9 f
       cases ub with
       | false =>
        have HF:Hid (Zq F W.heap.size u7 (P++qL false c a leg (j+1))):=by
         have e:qL false c a leg (j+1)=qL false c a leg j:=by rw[qL,if_neg (by rw[b6.out];decide)]
         rw[e,← HQ.out];exact B.out
        go_wp2;go_roundw
        case rel=>exact⟨j+1,by omega,by go_num,HF.out,J.out⟩
        case measure=>simp[intOf];omega
       | true =>
        have f:=zc BX.out J.out;have y4:=za f 4 _ rfl;have y5:=za f 5 _ rfl;have y6:=za f 6 _ rfl;have y7:=za f 7 _ rfl;have y8:=za f 8 _ rfl;have y9:=za f 9 _ rfl;obtain⟨qa,qc,X,_⟩:=zt B.out;have X:u7=.slice qa Q.length qc:=X;subst X;have K:Hid (Zq (F.alloc (.cells #[int i64 leg,int i64 (j:Int),.bool false,int i64 c,int i64 a.pe,int i64 a.len,int i64 a.hei,int i64 a.cl,.bool a.all,int i64 a.be] 175)) W.heap.size (.slice qa Q.length qc) Q):=zm (zr bZ _) B.out;have t:Hid (Below W.heap.size W (F.alloc (.cells #[int i64 leg,int i64 (j:Int),.bool false,int i64 c,int i64 a.pe,int i64 a.len,int i64 a.hei,int i64 a.cl,.bool a.all,int i64 a.be] 175))):=zr J.out _;have e6:W.heap.size<=(F.alloc (.cells #[int i64 leg,int i64 (j:Int),.bool false,int i64 c,int i64 a.pe,int i64 a.len,int i64 a.hei,int i64 a.cl,.bool a.all,int i64 a.be] 175)).heap.size:=Nat.le_trans a7 t.out.size;have b0:Hid (∀ m u,([int i64 leg,int i64 (j:Int),.bool false,int i64 c,int i64 a.pe,int i64 a.len,int i64 a.hei,int i64 a.cl,.bool a.all,int i64 a.be]:List Value)[m]?=some u->(F.alloc (.cells #[int i64 leg,int i64 (j:Int),.bool false,int i64 c,int i64 a.pe,int i64 a.len,int i64 a.hei,int i64 a.cl,.bool a.all,int i64 a.be] 175)).cell? ((⟨F.heap.size,0,none⟩:Addr).add m)=some u):=World.news_of_block (heap_alloc_new F _);clear B f;go_wp2_with (first|(at_builtin;refine zz _ (by rfl) (.tmp 79) (.tmp 86) 172 (by rfl) W.heap.size 175 k0 (.agg #[int i64 0,int i64 0,.bool false,int i64 0,int i64 0,int i64 0,int i64 0,int i64 0,.bool false,int i64 0]) 10 80 Tryz.underlying172 ki g0 g2 g3 rfl (by decide) _ Q.length (zdm Q) (by rfl) K.out (some ⟨F.heap.size,0,none⟩) 1 1 [int i64 leg,int i64 (j:Int),.bool false,int i64 c,int i64 a.pe,int i64 a.len,int i64 a.hei,int i64 a.cl,.bool a.all,int i64 a.be] (by rfl) (fun h=>(by cases h)) (by rfl) (fun ad e=>by cases e;exact b0.out) (by intro u hu;simp at hu;rcases hu with rfl|rfl|rfl|rfl|rfl|rfl|rfl|rfl|rfl|rfl <;> rfl) (by unfold maxLen;omega) (by omega) e6 ?_;intro v9 w9 b8 b7))
        have HF:Hid (Zq w9 W.heap.size v9 (P++qL false c a leg (j+1))):=by
         have e:P++qL false c a leg (j+1)=Q++[⟨leg,j,false,c,a⟩]:=by rw[HQ.out,List.append_assoc];congr 1;rw[qL,if_pos b6.out]
         show w9.ownsRow _ _ 10 v9 _ _
         rw[e,zco,List.length_append];exact b8
        have d7:Hid (Below W.heap.size W w9):=t.out.grown b7 t.out.size (fun b hb=>by have:=(K.out.lt b hb).1;omega)
        clear y4 y5 y6 y7 y8 y9 b8 b7 K t b0;go_wp2;go_roundw
        case rel=>exact⟨j+1,by omega,by go_num,HF.out,d7.out⟩
        case measure=>simp[intOf];omega
      ·obtain rfl:j=3:=by omega
       have HF:Hid (Zq s W.heap.size u7 (([]:List Wk)++qZ false c a y.lg (k+1))):=by
        have e:([]:List Wk)++qZ false c a y.lg (k+1)=P++qL false c a leg 3:=by rw[HP.out,a9.out,List.append_assoc];rfl
        rw[e];exact C.out
       go_wp2;go_roundw
       case rel=>exact⟨k+1,by omega,by go_num,HF.out,A.out⟩
       case measure=>simp[intOf];omega
    ·obtain rfl:k=y.lgn:=by omega
     have d0:Hid (Zq _ w.heap.size _ (qN x c y m)):=d8.out _ _ G.out n.out;have b9:=hI (zj g.out n.out);go_wp2;go_ret;exact⟨_,rfl,d0.out,b9.out⟩
  ·have dL:decide (zR y.kind)=false:=decide_eq_false hL
   have d0:Hid (Zq W w.heap.size (.slice none 0 0) (qN x c y m)):=by
    have e:qN x c y m=([]:List Wk):=e0.out.2 hL;rw[e];exact zE L.out g.out.size
   have b9:=hI (zj g.out I.out);have S:=zc BO.out I.out;have o0:=za S 0 _ rfl;go_wp2_with (first|(go_at_call 44;refine sC (zY _ _) ?_))
   go_ret;exact⟨_,rfl,d0.out,b9.out⟩
def zeR (x:qT)(res:Nat)(who:Int):Prop :=
 if res=0 then Has (Q8 x.st) x.stn who else if res=1 then Has (zaW x.ro) x.ron who else Has (zaU x.se) x.sen who
inductive zab (s:Sail) (w:Wk) (x:qT):qT->Prop
 | noStay (r:Nat) (e:w.res=0) (g:w.goes=true) (h:r<x.stn) (q:(x.st r).who=w.who):zab s w x (x.noStay r)
 | noRoom (r:Nat) (e:w.res=1) (g:w.goes=true) (h:r<x.ron) (q:(x.ro r).who=w.who):zab s w x (x.noRoom r)
 | noSeat (r:Nat) (e:w.res=2) (g:w.goes=true) (h:r<x.sen) (q:(x.se r).who=w.who):zab s w x (x.noSeat r)
 | addStay (k:Nat) (e:w.res=0) (g:w.goes=false) (h:Places s.la x.stn x.st w.who w.p.len w.p.hei k):zab s w x (x.addStay ⟨w.who,(k:Int),w.p.len,w.p.hei⟩)
 | addRoom (r:ZF) (e:w.res=1) (g:w.goes=false) (q:r.who=w.who) (c:In r.who 1 9999) (a:¬ Has (zaW x.ro) x.ron r.who) (b:zcE s.ca (qW s.ca x.ro x.ron) r):zab s w x (x.addRoom r)
 | addSeat (r:zaf) (e:w.res=2) (g:w.goes=false) (q:r.who=w.who) (hn:x.sen≠60) (c:In r.who 1 9999) (hm:In r.many 1 20) (a:¬ Has (zaU x.se) x.sen r.who) (b:zbE x.se x.sen+r.many<=s.most):zab s w x (x.addSeat r)
theorem zab.good {s:Sail}{w:Wk}{x a:qT}(h:zab s w x a)(hl:qJ s x):qJ s a:=by
 cases h with
 | noStay r e g h q=>exact hl.noStay h
 | noRoom r e g h q=>exact hl.noRoom h
 | noSeat r e g h q=>exact hl.noSeat h
 | addStay k e g h=>exact hl.addStay h
 | addRoom r e g q hw hh hs=>exact hl.addRoom hw hh hs
 | addSeat r e g q hn hw hm hh hs=>exact hl.addSeat hn hw hm hh hs
theorem zeS {F G:Nat->Int}{n:Nat}{x:Int}(h:∀ j,j<n->G j=F j)(b:G n≠x):Has G (n+1) x↔Has F n x:=by
 constructor
 ·rintro⟨j,a,e⟩
  by_cases c:j=n
  ·subst c;exact absurd e b
  ·exact⟨j,by omega,by rw[← h j (by omega)];exact e⟩
 ·rintro⟨j,a,e⟩
  exact⟨j,by omega,by rw[h j a];exact e⟩
theorem zab.others {s:Sail}{w:Wk}{x f:qT}(h:zab s w x f){res:Nat}{who:Int}(hr:res<3)(hd:res≠w.res∨who≠w.who):zeR f res who↔zeR x res who:=by
 obtain rfl|rfl|rfl:res=0∨res=1∨res=2:=by omega
 all_goals
  cases h with
  | noStay r e g h q =>
   first
   | exact Iff.rfl
   | (have a:(x.st r).who≠who:=fun c=>by rcases hd with d | d;exact d e.symm;exact d (by rw[← c,q])
     have:=zeO (S:=x.st) (n:=x.stn - 1) (r:=r) (by omega) a
     rw[show x.stn - 1+1=x.stn by omega] at this
     exact this)
  | noRoom r e g h q =>
   first
   | exact Iff.rfl
   | (have a:zaW x.ro r≠who:=fun c=>by rcases hd with d | d;exact d e.symm;exact d (by rw[← c];exact q)
     have:=zdk (F:=zaW x.ro) (n:=x.ron - 1) (r:=r) (by omega) a
     rw[show x.ron - 1+1=x.ron by omega,← zeP] at this
     exact this)
  | noSeat r e g h q =>
   first
   | exact Iff.rfl
   | (have a:zaU x.se r≠who:=fun c=>by rcases hd with d | d;exact d e.symm;exact d (by rw[← c];exact q)
     have:=zdk (F:=zaU x.se) (n:=x.sen - 1) (r:=r) (by omega) a
     rw[show x.sen - 1+1=x.sen by omega,← zeQ] at this
     exact this)
  | addStay k e g h =>
   first
   | exact Iff.rfl
   | (have a:w.who≠who:=fun c=>by rcases hd with d | d;exact d e.symm;exact d c.symm
     exact zeS (fun j b=>by unfold Q8 qT.addStay;dsimp only;rw[zfV b]) (by unfold Q8 qT.addStay;dsimp only;rw[cat_n];exact a))
  | addRoom r e g q hw hh hs =>
   first
   | exact Iff.rfl
   | (have a:r.who≠who:=fun c=>by rcases hd with d | d;exact d e.symm;exact d (by rw[← c,q])
     exact zeS (fun j b=>by unfold zaW qT.addRoom;dsimp only;rw[zan b]) (by unfold zaW qT.addRoom;dsimp only;rw[zeo];exact a))
  | addSeat r e g q hn hw hm hh hs =>
   first
   | exact Iff.rfl
   | (have a:r.who≠who:=fun c=>by rcases hd with d | d;exact d e.symm;exact d (by rw[← c,q])
     exact zeS (fun j b=>by unfold zaU qT.addSeat;dsimp only;rw[zbo b]) (by unfold zaU qT.addSeat;dsimp only;rw[zcm];exact a))
def Apt (o:Off)(L:Nat->qT)(w:Wk):Prop:=w.res<3/\∀ k,k<o.san->(o.sa k).id=w.leg->if w.goes=true then zeR (L k) w.res w.who else ¬ zeR (L k) w.res w.who
def zdn (a b:Wk):Prop:=a.leg≠b.leg∨a.res≠b.res∨a.who≠b.who
def zfC (L:Nat->qT)(k:Nat)(x:qT)(j:Nat):qT:=if j=k then x else L j
theorem Apt.after {o:Off}{L:Nat->qT}{w v:Wk}{k:Nat}{x:qT}(h:Apt o L v)(g:(o.sa k).id=w.leg)(i:zab (o.sa k) w (L k) x)(hd:zdn v w):Apt o (zfC L k x) v:=by
 refine⟨h.1,fun j f e=>?_⟩
 have a:=h.2 j f e;unfold zfC
 by_cases c:j=k
 ·subst c
  rw[if_pos rfl];have b:v.res≠w.res∨v.who≠w.who:=by
   rcases hd with d|d
   ·exact absurd (by rw[← e,g]) d
   ·exact d
  rw[i.others h.1 b];exact a
 ·rw[if_neg c]
  exact a
theorem zib {o:Off}{L:Nat->qT}{w:Wk}{k:Nat}{x:qT}(h:∀ j,j<o.san->qJ (o.sa j) (L j))(b:zab (o.sa k) w (L k) x):∀ j,j<o.san->qJ (o.sa j) (zfC L k x j):=by
 intro j a;unfold zfC
 by_cases c:j=k
 ·subst c;rw[if_pos rfl];exact b.good (h j a)
 ·rw[if_neg c];exact h j a
theorem zbQ (goes:Bool)(who:Int)(p:Zf)(leg:Int):∀ j,(qL goes who p leg j).Pairwise zdn
 | 0=>List.Pairwise.nil
 | j+1=>by
  have d:=zbQ goes who p leg j;unfold qL
  split
  ·refine List.pairwise_append.2 ⟨d,List.pairwise_singleton _ _,fun a e b c=>?_⟩
   have:=(zap e).2.1;simp at c;subst c;exact .inr (.inl (by show a.res≠j;omega))
  ·exact d
theorem QB (goes:Bool)(who:Int)(p:Zf)(F:Nat->Int):∀ k,(∀ i,i<k->∀ j,j<i->F j≠F i)->(qZ goes who p F k).Pairwise zdn
 | 0,_=>List.Pairwise.nil
 | k+1,h=>by
  unfold qZ;refine List.pairwise_append.2 ⟨QB goes who p F k (fun i c=>h i (by omega)),zbQ _ _ _ _ _,fun a f b g=>?_⟩
  obtain⟨⟨i,c,e⟩,_⟩:=QA f;have d:=(zap g).1;exact .inl (by rw[e,d];exact h k (by omega) i c)
theorem zfZ {g h:Int}{p q:Zf}{c d:Nat->Int}{e f:Nat}(k:∀ i,i<e->∀ j,j<i->c j≠c i)(l:∀ i,i<f->∀ j,j<i->d j≠d i)(o:g≠h):(qZ true g p c e++qZ false h q d f).Pairwise zdn:=by
 refine List.pairwise_append.2 ⟨QB _ _ _ _ _ k,QB _ _ _ _ _ l,fun a m b n=>?_⟩
 exact .inr (.inr (by rw[(QA m).2.2.2.1,(QA n).2.2.2.1];exact o))
theorem Zy.apt_goes {o:Off}(h:Zy o){m:Nat}(w:m<o.bkn)(hl:zee (o.bk m)){p:Zf}(b:p.len=(o.bk m).len)(f:p.cl=(o.bk m).cl){v:Wk}(y:v ∈ qZ true (o.bk m).who p (o.bk m).lg (o.bk m).lgn):Apt o o.ld v:=by
 have g:zbz p.len p.cl 0=true->0<p.len:=by simp[zbz]
 have j:zbz p.len p.cl 1=true->0<p.cl:=by simp[zbz]
 obtain⟨⟨i,t,e⟩,x,s,z,_,a⟩:=QA y;refine⟨x,fun k u l=>?_⟩
 rw[if_pos s,z];obtain⟨n,q,r⟩:=h.here u w ⟨hl,i,t,by rw[l,e]⟩
 unfold zeR
 by_cases c:v.res=0
 ·rw[if_pos c]
  rw[c] at a;exact q (by rw[← b];exact g a)
 ·rw[if_neg c]
  by_cases d:v.res=1
  ·rw[if_pos d]
   rw[d] at a;exact r (by rw[← f];exact j a)
  ·rw[if_neg d]
   exact n
theorem Zy.apt_comes {o:Off}(h:Zy o){x:Int}(l:∀ i,i<o.bkn->(o.bk i).who≠x){p:Zf}{F:Nat->Int}{n:Nat}{v:Wk}(g:v ∈ qZ false x p F n):Apt o o.ld v:=by
 obtain⟨_,f,d,j,_,_⟩:=QA g;refine⟨f,fun k e _=>?_⟩
 rw[if_neg (by rw[d];decide),j]
 obtain⟨a,b,c⟩:=h.fresh l e;unfold zeR
 split
 ·exact b
 ·split
  ·exact c
  ·exact a
end Go.Proofs.YtfallpinmhbemaaGreatDoor
