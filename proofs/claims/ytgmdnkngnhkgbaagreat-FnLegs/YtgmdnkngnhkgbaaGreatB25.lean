import Derived.Test.YtgmdnkngnhkgbaaGreatB17
namespace Go.Proofs.YtgmdnkngnhkgbaaGreat
open Go.RowKit
open Go.Value (int)
open Go.IntKind (i64)
set_option maxHeartbeats 64000000
set_option maxRecDepth 1000000
structure Wk where
 leg:Int
 res:Nat
 goes:Bool
 who:Int
 p:ZO
def wkC (k:Wk):List Value:=[int i64 k.leg,int i64 (k.res:Int),.bool k.goes,int i64 k.who,int i64 k.p.pe,int i64 k.p.len,int i64 k.p.hei,int i64 k.p.cl,.bool k.p.all,int i64 k.p.be]
def zcP (l:List Wk):List Value:=l.flatMap wkC
theorem zbO (l:List Wk)(k:Wk):zcP (l++[k])=zcP l++wkC k:=by simp[zcP]
def qs (goes:Bool)(who:Int)(p:ZO)(leg:Int):Nat->List Wk
 | 0=>[]
 | j+1=>if zai p.len p.cl j=true then qs goes who p leg j++[⟨leg,j,goes,who,p⟩] else qs goes who p leg j
def qJ (goes:Bool)(who:Int)(p:ZO)(F:Nat->Int):Nat->List Wk
 | 0=>[]
 | k+1=>qJ goes who p F k++qs goes who p (F k) 3
theorem Q4 (goes:Bool)(who:Int)(p:ZO)(leg:Int):∀ j,(qs goes who p leg j).length<=j
 | 0=>Nat.le_refl _
 | j+1=>by
  have ih:=Q4 goes who p leg j;unfold qs
  split
  ·rw[List.length_append];simp;omega
  ·omega
theorem QB (goes:Bool)(who:Int)(p:ZO)(F:Nat->Int):∀ k,(qJ goes who p F k).length<=3*k
 | 0=>Nat.le_refl _
 | k+1=>by
  have ih:=QB goes who p F k;have h:=Q4 goes who p (F k) 3;unfold qJ;rw[List.length_append]
  omega
theorem Q5 {goes:Bool}{who:Int}{p:ZO}{leg:Int}:∀ {j:Nat}{k:Wk},k ∈ qs goes who p leg j->k.leg=leg/\k.res<j/\k.goes=goes/\k.who=who/\k.p=p/\zai p.len p.cl k.res=true
 | 0,k,h=>by simp[qs] at h
 | j+1,k,h=>by
  unfold qs at h
  split at h
  ·rename_i hu
   rcases List.mem_append.1 h with h|h
   ·obtain⟨a,b,c⟩:=Q5 h;exact⟨a,by omega,c⟩
   ·simp at h;subst h;exact⟨rfl,Nat.lt_succ_self _,rfl,rfl,rfl,hu⟩
  ·obtain⟨a,b,c⟩:=Q5 h;exact⟨a,by omega,c⟩
theorem Ql {goes:Bool}{who:Int}{p:ZO}{F:Nat->Int}:∀ {n:Nat}{k:Wk},k ∈ qJ goes who p F n->(∃ i,i<n/\k.leg=F i)/\k.res<3/\k.goes=goes/\k.who=who/\k.p=p/\zai p.len p.cl k.res=true
 | 0,k,h=>by simp[qJ] at h
 | n+1,k,h=>by
  unfold qJ at h
  rcases List.mem_append.1 h with h|h
  ·obtain⟨⟨i,hi,e⟩,c⟩:=Ql h;exact⟨⟨i,by omega,e⟩,c⟩
  ·obtain⟨a,c⟩:=Q5 h;exact⟨⟨n,Nat.lt_succ_self _,a⟩,c⟩
theorem Tryz.infoWork:(Tryz.prog.info? 169).map (fun i=>(i.zero,i.size,i.bytes))=some (some (.agg #[int i64 0,int i64 0,.bool false,int i64 0,int i64 0,int i64 0,int i64 0,int i64 0,.bool false,int i64 0]),10,80):=by kernel_rfl
def qY (w:World)(base:Nat)(v:Value)(l:List Wk):Prop:=w.ownsRow base 169 10 v l.length (zcP l)
theorem qY.nil (w:World)(base:Nat):qY w base (.slice none 0 0) []:=World.ownsRow_nil _ _ _ _
def QM (k:Int):Prop:=k=5∨k=6∨k=8
instance (k:Int):Decidable (QM k):=by unfold QM;exact inferInstance
def qu (x:Off)(a:Int)(y:OpD)(m:Nat):List Wk :=
 (if QM y.kind then qJ true (x.bk m).who ⟨(x.bk m).pe,(x.bk m).len,(x.bk m).hei,(x.bk m).cl,(x.bk m).all,(x.bk m).be⟩ (x.bk m).lg (x.bk m).lgn else [])++(if zO y.kind then qJ false a ⟨y.pe,y.len,y.hei,y.cl,y.all,y.be⟩ y.lg y.lgn else [])
theorem zfX (a1 a0 Y L:Option Addr)(N M R a5 a3 a2 Z m:Nat)(x:Off)(y:OpD)(c:Int)(w:World)(hR:R<=1048576)(h4:QU R x.bk 1048576)(hl:y.lgn<=1048576)(g6:qK w Y R x.bk)(g8:zX w L y.lgn y.lg)(hm:QM y.kind->y.name=(m:Int)+1/\m<R) :
  Calls Tryz.prog 117 #[.agg #[.slice a1 N a5,.slice a0 M a3,.slice Y R a2],int i64 c,.agg #[int i64 y.kind,.string y.own,int i64 y.name,.slice L y.lgn Z,int i64 y.pe,int i64 y.len,int i64 y.hei,int i64 y.cl,.bool y.all,int i64 y.be,int i64 y.unt,int i64 y.now]] w fun e w'=>∃ v,e=.returned v/\qY w' w.heap.size v (qu x c y m)/\Below w.heap.size w w':=by
 obtain⟨k0,ki,f9,g0,g2⟩:=info_parts Tryz.infoWork;have h5:=hI g6;have i2:=hI h4;have g5:=hI g8;clear g6 h4 g8;have l:Below w.heap.size w ((w.alloc (.cells #[.slice a1 N a5,.slice a0 M a3,.slice Y R a2] 27)).alloc (.cells #[int i64 y.kind,.string y.own,int i64 y.name,.slice L y.lgn Z,int i64 y.pe,int i64 y.len,int i64 y.hei,int i64 y.cl,.bool y.all,int i64 y.be,int i64 y.unt,int i64 y.now] 120)):=zl (zl bZ _) _;have bF:((w.alloc (.cells #[.slice a1 N a5,.slice a0 M a3,.slice Y R a2] 27)).alloc (.cells #[int i64 y.kind,.string y.own,int i64 y.name,.slice L y.lgn Z,int i64 y.pe,int i64 y.len,int i64 y.hei,int i64 y.cl,.bool y.all,int i64 y.be,int i64 y.unt,int i64 y.now] 120)).heap[w.heap.size]?=some (.cells #[.slice a1 N a5,.slice a0 M a3,.slice Y R a2] 27 (0,0)):=zc (heap_alloc_new w _) _;have bO:((w.alloc (.cells #[.slice a1 N a5,.slice a0 M a3,.slice Y R a2] 27)).alloc (.cells #[int i64 y.kind,.string y.own,int i64 y.name,.slice L y.lgn Z,int i64 y.pe,int i64 y.len,int i64 y.hei,int i64 y.cl,.bool y.all,int i64 y.be,int i64 y.unt,int i64 y.now] 120)).heap[w.heap.size+1]?=some (.cells #[int i64 y.kind,.string y.own,int i64 y.name,.slice L y.lgn Z,int i64 y.pe,int i64 y.len,int i64 y.hei,int i64 y.cl,.bool y.all,int i64 y.be,int i64 y.unt,int i64 y.now] 120 (0,0)):=by simpa using heap_alloc_new (w.alloc (.cells #[.slice a1 N a5,.slice a0 M a3,.slice Y R a2] 27)) _
 obtain⟨a,f6⟩:∃ a:ZO,a=⟨y.pe,y.len,y.hei,y.cl,y.all,y.be⟩:=⟨_,rfl⟩;have e7:=hI f6
 by_cases hF:QM y.kind
 ·obtain⟨g9,f5⟩:=hm hF
  obtain⟨Cc,h3,g7⟩:=h5.out;obtain⟨o,off,e9,G⟩:=h3 m f5;have g3:=hI e9;clear e9;obtain⟨d5,d0,f4,g1,s1⟩:=g7 m f5;have f7:=i2.out m f5;obtain⟨b,e1⟩:∃ b,b=x.bk m:=⟨_,rfl⟩;rw[← e1] at f4 g1 s1 f7;obtain⟨d,e8⟩:∃ d:ZO,d=⟨b.pe,b.len,b.hei,b.cl,b.all,b.be⟩:=⟨_,rfl⟩;have d9:Hid ((zO y.kind->qu x c y m=qJ true b.who d b.lg b.lgn++qJ false c a y.lg y.lgn)/\(¬ zO y.kind->qu x c y m=qJ true b.who d b.lg b.lgn)):=by
   constructor
   ·intro h;unfold qu;rw[if_pos hF,if_pos h,e8,e1,e7.out]
   ·intro h;unfold qu;rw[if_pos hF,if_neg h,e8,e1,List.append_nil]
  have i9:b.lgn<=1048576:=f7.2;have f0:Hid ((qJ true b.who d b.lg b.lgn).length<=3145728):=by have h:=QB true b.who d b.lg b.lgn;show _<=3145728;omega
  rw[f4] at G;have C:=World.block_lt_of_cell? w _ (G 0 (by decide))
  have g4:=hI g1;have i8:=hI e1;have hk:(y.kind == 5)=true∨((y.kind == 5)=false/\(y.kind == 6)=true)∨((y.kind == 5)=false/\(y.kind == 6)=false/\(y.kind == 8)=true):=by
   unfold QM at hF
   rcases hF with h|h|h <;> rw[h] <;> decide
  rw[g9] at bO l bF ⊢;go_enter Tryz.func117,Tryz.ntmps117;go_upto_region 2 with fail;generalize (w.alloc (.cells #[.slice a1 N a5,.slice a0 M a3,.slice Y R a2] 27)).alloc (.cells #[int i64 y.kind,.string y.own,int i64 ((m:Int)+1),.slice L y.lgn Z,int i64 y.pe,int i64 y.len,int i64 y.hei,int i64 y.cl,.bool y.all,int i64 y.be,int i64 y.unt,int i64 y.now] 120)=V at l bF bO ⊢;have f2:=za bF 2 _ rfl;rw[g3.out] at f2;have o0:=za bO 0 _ rfl;have o2:=za bO 2 _ rfl;have c0:V.cell? ⟨o,off+m*13,none⟩=some (int i64 b.name):=(l.cell (p:=⟨o,off+m*13,none⟩) C).trans (G 0 (by decide))
  have c1:V.cell? ⟨o,off+m*13+1,none⟩=some (int i64 b.who):=(l.cell (p:=⟨o,off+m*13+1,none⟩) C).trans (G 1 (by decide))
  have c2:V.cell? ⟨o,off+m*13+2,none⟩=some (.string b.own):=(l.cell (p:=⟨o,off+m*13+2,none⟩) C).trans (G 2 (by decide))
  have c3:V.cell? ⟨o,off+m*13+3,none⟩=some (.slice d5 b.lgn d0):=(l.cell (p:=⟨o,off+m*13+3,none⟩) C).trans (G 3 (by decide))
  have c4:V.cell? ⟨o,off+m*13+4,none⟩=some (int i64 b.pe):=(l.cell (p:=⟨o,off+m*13+4,none⟩) C).trans (G 4 (by decide))
  have c5:V.cell? ⟨o,off+m*13+5,none⟩=some (int i64 b.len):=(l.cell (p:=⟨o,off+m*13+5,none⟩) C).trans (G 5 (by decide))
  have c6:V.cell? ⟨o,off+m*13+6,none⟩=some (int i64 b.hei):=(l.cell (p:=⟨o,off+m*13+6,none⟩) C).trans (G 6 (by decide))
  have c7:V.cell? ⟨o,off+m*13+7,none⟩=some (int i64 b.cl):=(l.cell (p:=⟨o,off+m*13+7,none⟩) C).trans (G 7 (by decide))
  have c8:V.cell? ⟨o,off+m*13+8,none⟩=some (.bool b.all):=(l.cell (p:=⟨o,off+m*13+8,none⟩) C).trans (G 8 (by decide))
  have c9:V.cell? ⟨o,off+m*13+9,none⟩=some (int i64 b.be):=(l.cell (p:=⟨o,off+m*13+9,none⟩) C).trans (G 9 (by decide))
  have i3:V.cell? ⟨o,off+m*13+10,none⟩=some (int i64 b.state):=(l.cell (p:=⟨o,off+m*13+10,none⟩) C).trans (G 10 (by decide))
  have i4:V.cell? ⟨o,off+m*13+11,none⟩=some (int i64 b.unt):=(l.cell (p:=⟨o,off+m*13+11,none⟩) C).trans (G 11 (by decide))
  have i5:V.cell? ⟨o,off+m*13+12,none⟩=some (int i64 b.price):=(l.cell (p:=⟨o,off+m*13+12,none⟩) C).trans (G 12 (by decide))
  have i0:(0:Int)<=(m:Int):=by omega
  have i1:(m:Int)<(R:Int):=by omega
  have i6:IntKind.i64.wrap ((m:Int)+1 - 1)=(m:Int):=by rw[IntKind.wrap_i64];omega
  have bX:=heap_alloc_new V (.cells #[int i64 b.name,int i64 b.who,.string b.own,.slice d5 b.lgn d0,int i64 b.pe,int i64 b.len,int i64 b.hei,int i64 b.cl,.bool b.all,int i64 b.be,int i64 b.state,int i64 b.unt,int i64 b.price] 43);have pX:Below V.heap.size V (V.alloc (.cells #[int i64 b.name,int i64 b.who,.string b.own,.slice d5 b.lgn d0,int i64 b.pe,int i64 b.len,int i64 b.hei,int i64 b.cl,.bool b.all,int i64 b.be,int i64 b.state,int i64 b.unt,int i64 b.price] 43)):=zl bZ _;clear G f4 g1 s1 f7 h3 g7 e1;go_cut [27] (fun v wx=>v=.bool true/\wx=V)
  case first =>
   rcases hk with h|⟨h,h6⟩|⟨h,h6,h8⟩
   all_goals
    go_wp2;go_meet;exact⟨rfl,rfl⟩
  case rest =>
  obtain⟨rfl,f8⟩:=hcut;have f8:=f8.symm;subst f8;clear hk o0;have h9:=hI bO;go_upto_region 4 with fail;have BO:Hid ((V.alloc (.cells #[int i64 b.name,int i64 b.who,.string b.own,.slice d5 b.lgn d0,int i64 b.pe,int i64 b.len,int i64 b.hei,int i64 b.cl,.bool b.all,int i64 b.be,int i64 b.state,int i64 b.unt,int i64 b.price] 43)).heap[w.heap.size+1]?=some (.cells #[int i64 y.kind,.string y.own,int i64 y.name,.slice L y.lgn Z,int i64 a.pe,int i64 a.len,int i64 a.hei,int i64 a.cl,.bool a.all,int i64 a.be,int i64 y.unt,int i64 y.now] 120 (0,0))):=by rw[e7.out,g9];exact zc bO _
  have BX:Hid ((V.alloc (.cells #[int i64 b.name,int i64 b.who,.string b.own,.slice d5 b.lgn d0,int i64 b.pe,int i64 b.len,int i64 b.hei,int i64 b.cl,.bool b.all,int i64 b.be,int i64 b.state,int i64 b.unt,int i64 b.price] 43)).heap[V.heap.size]?=some (.cells #[int i64 b.name,int i64 b.who,.string b.own,.slice d5 b.lgn d0,int i64 d.pe,int i64 d.len,int i64 d.hei,int i64 d.cl,.bool d.all,int i64 d.be,int i64 b.state,int i64 b.unt,int i64 b.price] 43 (0,0))):=by rw[e8];exact bX
  have g:=hI (zf l pX);generalize V.heap.size=xb at BX bX ⊢;generalize V.alloc (.cells #[int i64 b.name,int i64 b.who,.string b.own,.slice d5 b.lgn d0,int i64 b.pe,int i64 b.len,int i64 b.hei,int i64 b.cl,.bool b.all,int i64 b.be,int i64 b.state,int i64 b.unt,int i64 b.price] 43)=W at bX pX BO BX g ⊢;clear c0 c1 c2 c3 c4 c5 c6 c7 c8 c9 i3 i4 i5 f2 o2 bO bF l pX h9 i0 i1 i6;have x3:=za bX 3 _ rfl;have d8:=hI (g4.out.below g.out);have f1:=hI (g5.out.below g.out);have D:Hid (qY W W.heap.size (.slice none 0 0) []):=qY.nil _ _;have a7:Hid (Below W.heap.size W W):=bZ;have e0:([]:List Wk).length<=3145728:=Nat.zero_le _;have a6:W.heap.size<=W.heap.size:=Nat.le_refl _;clear bX f6 e8;go_wp2;clear x3;go_loopw [7,10,11,38] (fun v _ _ i wr=>∃ k:Nat,k<=b.lgn/\i=int i64 k/\Hid (qY wr W.heap.size v ([]++qJ true b.who d b.lg k))/\Hid (Below W.heap.size W wr)) (fun _ _ _ i _=>b.lgn - (intOf i).toNat)
  case atStart=>exact⟨0,Nat.zero_le _,rfl,(by show qY _ _ _ ([]++[]);rw[List.append_nil];exact D.out),a7.out⟩
  case round =>
   clear D a7;obtain⟨k,hk,rfl,F,n⟩:=hrel
   by_cases hlt:k<b.lgn
   ·obtain⟨o,go,e2,T⟩:=d8.out k hlt
    subst e2;have G:wr.cell? ⟨o,go+k,none⟩=some (int i64 (b.lg k)):=(n.out.cell (p:=⟨o,go+k,none⟩) (World.block_lt_of_cell? W _ T)).trans T;obtain⟨leg,q⟩:∃ leg,leg=b.lg k:=⟨_,rfl⟩;rw[← q] at G;have a8:=hI q;have e4:([]++qJ true b.who d b.lg k).length<=3145728+3*k:=by have h1:=QB true b.who d b.lg k;have h2:=e0;rw[List.length_append];omega
    obtain⟨P,hP⟩:∃ P,P=[]++qJ true b.who d b.lg k:=⟨_,rfl⟩;rw[← hP] at e4;have HP:=hI hP;have b0:Hid (qY wr W.heap.size u7 P):=by rw[hP];exact F.out
    clear q hP F T;go_wp2;clear G;obtain⟨wo,e6⟩:∃ z,z=wr:=⟨_,rfl⟩;subst e6;go_loopw [7,11] (fun v r wr=>∃ j:Nat,j<=3/\r=int i64 j/\Hid (qY wr W.heap.size v (P++qs true b.who d leg j))/\Hid (Below W.heap.size W wr)) (fun _ r _=>3 - (intOf r).toNat)
    case atStart=>exact⟨0,Nat.zero_le _,rfl,(by show qY _ _ _ (P++[]);rw[List.append_nil];exact b0.out),n.out⟩
    case round =>
     clear b0 n;obtain⟨j,hj,rfl,B,t⟩:=hrel
     by_cases hj3:j<3
     ·have f:=zb BX.out t.out
      have y1:=za f 1 _ rfl;have y4:=za f 4 _ rfl;have y5:=za f 5 _ rfl;have y6:=za f 6 _ rfl;have y7:=za f 7 _ rfl;have y8:=za f 8 _ rfl;have y9:=za f 9 _ rfl;have e3:=Q4 true b.who d leg j;obtain⟨Q,hQ⟩:∃ Q,Q=P++qs true b.who d leg j:=⟨_,rfl⟩;have h0:Q.length<=3145731+3*k:=by rw[hQ,List.length_append];omega
      rw[← hQ] at B;have HQ:=hI hQ;clear hQ e3;have cu:=zbN d.pe d.len d.hei d.cl d.be d.all j wr hj3;obtain⟨ub,X⟩:∃ ub,ub=zai d.len d.cl j:=⟨_,rfl⟩;rw[← X] at cu;have b5:=hI X.symm;clear X;go_wp2_with fail;refine cu.mono ?_;clear cu;rintro e E ⟨rfl,S⟩;have A:=hI (zp S B.out);have I:=hI (zf t.out S);clear B t S y1 y4 y5 y6 y7 y8 y9 f
      cases ub with
      | false =>
       have HF:Hid (qY E W.heap.size u7 (P++qs true b.who d leg (j+1))):=by
        have e:qs true b.who d leg (j+1)=qs true b.who d leg j:=by rw[qs,if_neg (by rw[b5.out];decide)]
        rw[e,← HQ.out];exact A.out
       go_wp2;go_roundw
       case rel=>exact⟨j+1,by omega,by go_num,HF.out,I.out⟩
       case measure=>simp[intOf];omega
      | true =>
       have f:=zb BX.out I.out;have y1:=za f 1 _ rfl;have y4:=za f 4 _ rfl;have y5:=za f 5 _ rfl;have y6:=za f 6 _ rfl;have y7:=za f 7 _ rfl;have y8:=za f 8 _ rfl;have y9:=za f 9 _ rfl;obtain⟨qa,qc,U,_⟩:=zr A.out;have U:u7=.slice qa Q.length qc:=U;subst U;have J:Hid (qY (E.alloc (.cells #[int i64 leg,int i64 (j:Int),.bool true,int i64 b.who,int i64 d.pe,int i64 d.len,int i64 d.hei,int i64 d.cl,.bool d.all,int i64 d.be] 169)) W.heap.size (.slice qa Q.length qc) Q):=zp (zl bZ _) A.out;have s:Hid (Below W.heap.size W (E.alloc (.cells #[int i64 leg,int i64 (j:Int),.bool true,int i64 b.who,int i64 d.pe,int i64 d.len,int i64 d.hei,int i64 d.cl,.bool d.all,int i64 d.be] 169))):=zl I.out _;have e5:W.heap.size<=(E.alloc (.cells #[int i64 leg,int i64 (j:Int),.bool true,int i64 b.who,int i64 d.pe,int i64 d.len,int i64 d.hei,int i64 d.cl,.bool d.all,int i64 d.be] 169)).heap.size:=Nat.le_trans a6 s.out.size;have a9:Hid (∀ m u,([int i64 leg,int i64 (j:Int),.bool true,int i64 b.who,int i64 d.pe,int i64 d.len,int i64 d.hei,int i64 d.cl,.bool d.all,int i64 d.be]:List Value)[m]?=some u->(E.alloc (.cells #[int i64 leg,int i64 (j:Int),.bool true,int i64 b.who,int i64 d.pe,int i64 d.len,int i64 d.hei,int i64 d.cl,.bool d.all,int i64 d.be] 169)).cell? ((⟨E.heap.size,0,none⟩:Addr).add m)=some u):=World.news_of_block (heap_alloc_new E _);clear A f;go_wp2_with (first|(at_builtin;refine zu _ (by rfl) (.tmp 50) (.tmp 58) 166 (by rfl) W.heap.size 169 k0 (.agg #[int i64 0,int i64 0,.bool false,int i64 0,int i64 0,int i64 0,int i64 0,int i64 0,.bool false,int i64 0]) 10 80 Tryz.underlying166 ki f9 g0 g2 rfl (by decide) _ Q.length (zcP Q) (by rfl) J.out (some ⟨E.heap.size,0,none⟩) 1 1 [int i64 leg,int i64 (j:Int),.bool true,int i64 b.who,int i64 d.pe,int i64 d.len,int i64 d.hei,int i64 d.cl,.bool d.all,int i64 d.be] (by rfl) (fun h=>(by cases h)) (by rfl) (fun ad e=>by cases e;exact a9.out) (by intro u hu;simp at hu;rcases hu with rfl|rfl|rfl|rfl|rfl|rfl|rfl|rfl|rfl|rfl <;> rfl) (by unfold maxLen;omega) (by omega) e5 ?_;intro v9 w9 b7 b6))
       have HF:Hid (qY w9 W.heap.size v9 (P++qs true b.who d leg (j+1))):=by
        have e:P++qs true b.who d leg (j+1)=Q++[⟨leg,j,true,b.who,d⟩]:=by rw[HQ.out,List.append_assoc];congr 1;rw[qs,if_pos b5.out]
        show w9.ownsRow _ _ 10 v9 _ _
        rw[e,zbO,List.length_append];exact b7
       have d6:Hid (Below W.heap.size W w9):=s.out.grown b6 s.out.size (fun b hb=>by have:=(J.out.lt b hb).1;omega)
       clear y1 y4 y5 y6 y7 y8 y9 b7 b6 J s a9;go_wp2;go_roundw
       case rel=>exact⟨j+1,by omega,by go_num,HF.out,d6.out⟩
       case measure=>simp[intOf];omega
     ·obtain rfl:j=3:=by omega
      have HF:Hid (qY wr W.heap.size u7 ([]++qJ true b.who d b.lg (k+1))):=by
       have e:[]++qJ true b.who d b.lg (k+1)=P++qs true b.who d leg 3:=by rw[HP.out,a8.out,List.append_assoc];rfl
       rw[e];exact B.out
      go_wp2;go_roundw
      case rel=>exact⟨k+1,by omega,by go_num,HF.out,t.out⟩
      case measure=>simp[intOf];omega
   ·obtain rfl:k=b.lgn:=by omega
    have K:=hI F;have H:=hI n;clear F n hlt hk
    by_cases hL:zO y.kind
    ·have dL:decide (zO y.kind)=true:=decide_eq_true hL
     have d7:Hid (∀ (z:World) (v:Value),qY z W.heap.size v ((qJ true b.who d b.lg b.lgn)++qJ false c a y.lg y.lgn)->Below W.heap.size W z->qY z w.heap.size v (qu x c y m)):=fun z v h _=>by
      have e:qu x c y m=(qJ true b.who d b.lg b.lgn)++qJ false c a y.lg y.lgn:=d9.out.1 hL;rw[e];exact zC h g.out.size
     have O:=zb BO.out H.out;have o0:=za O 0 _ rfl;have o3:=za O 3 _ rfl;go_wp2_with (first|(go_at_call 99;refine sC (zL _ _) ?_))
     clear o0 o3 O hL dL;have BX:Hid _:=BO;have d8:=hI f1;have D:=hI K;have a7:=hI H;have e0:((qJ true b.who d b.lg b.lgn)).length<=3145728:=f0.out;clear K H;go_loopw [7,13,14,67] (fun v _ _ i wr=>∃ k:Nat,k<=y.lgn/\i=int i64 k/\Hid (qY wr W.heap.size v ((qJ true b.who d b.lg b.lgn)++qJ false c a y.lg k))/\Hid (Below W.heap.size W wr)) (fun _ _ _ i _=>y.lgn - (intOf i).toNat)
     case atStart=>exact⟨0,Nat.zero_le _,rfl,(by show qY _ _ _ ((qJ true b.who d b.lg b.lgn)++[]);rw[List.append_nil];exact D.out),a7.out⟩
     case round =>
      clear D a7;obtain⟨k,hk,rfl,F,n⟩:=hrel
      by_cases hlt:k<y.lgn
      ·obtain⟨o,go,e2,T⟩:=d8.out k hlt
       subst e2;have G:wr.cell? ⟨o,go+k,none⟩=some (int i64 (y.lg k)):=(n.out.cell (p:=⟨o,go+k,none⟩) (World.block_lt_of_cell? W _ T)).trans T;obtain⟨leg,q⟩:∃ leg,leg=y.lg k:=⟨_,rfl⟩;rw[← q] at G;have a8:=hI q;have e4:((qJ true b.who d b.lg b.lgn)++qJ false c a y.lg k).length<=3145728+3*k:=by have h1:=QB false c a y.lg k;have h2:=e0;rw[List.length_append];omega
       obtain⟨P,hP⟩:∃ P,P=(qJ true b.who d b.lg b.lgn)++qJ false c a y.lg k:=⟨_,rfl⟩;rw[← hP] at e4;have HP:=hI hP;have b0:Hid (qY wr W.heap.size u7 P):=by rw[hP];exact F.out
       clear q hP F T;go_wp2;clear G;obtain⟨wo,e6⟩:∃ z,z=wr:=⟨_,rfl⟩;subst e6;go_loopw [7,14] (fun v r wr=>∃ j:Nat,j<=3/\r=int i64 j/\Hid (qY wr W.heap.size v (P++qs false c a leg j))/\Hid (Below W.heap.size W wr)) (fun _ r _=>3 - (intOf r).toNat)
       case atStart=>exact⟨0,Nat.zero_le _,rfl,(by show qY _ _ _ (P++[]);rw[List.append_nil];exact b0.out),n.out⟩
       case round =>
        clear b0 n;obtain⟨j,hj,rfl,B,t⟩:=hrel
        by_cases hj3:j<3
        ·have f:=zb BX.out t.out
         have y4:=za f 4 _ rfl;have y5:=za f 5 _ rfl;have y6:=za f 6 _ rfl;have y7:=za f 7 _ rfl;have y8:=za f 8 _ rfl;have y9:=za f 9 _ rfl;have e3:=Q4 false c a leg j;obtain⟨Q,hQ⟩:∃ Q,Q=P++qs false c a leg j:=⟨_,rfl⟩;have h0:Q.length<=3145731+3*k:=by rw[hQ,List.length_append];omega
         rw[← hQ] at B;have HQ:=hI hQ;clear hQ e3;have cu:=zbN a.pe a.len a.hei a.cl a.be a.all j wr hj3;obtain⟨ub,X⟩:∃ ub,ub=zai a.len a.cl j:=⟨_,rfl⟩;rw[← X] at cu;have b5:=hI X.symm;clear X;go_wp2_with fail;refine cu.mono ?_;clear cu;rintro e E ⟨rfl,S⟩;have A:=hI (zp S B.out);have I:=hI (zf t.out S);clear B t S y4 y5 y6 y7 y8 y9 f
         cases ub with
         | false =>
          have HF:Hid (qY E W.heap.size u7 (P++qs false c a leg (j+1))):=by
           have e:qs false c a leg (j+1)=qs false c a leg j:=by rw[qs,if_neg (by rw[b5.out];decide)]
           rw[e,← HQ.out];exact A.out
          go_wp2;go_roundw
          case rel=>exact⟨j+1,by omega,by go_num,HF.out,I.out⟩
          case measure=>simp[intOf];omega
         | true =>
          have f:=zb BX.out I.out;have y4:=za f 4 _ rfl;have y5:=za f 5 _ rfl;have y6:=za f 6 _ rfl;have y7:=za f 7 _ rfl;have y8:=za f 8 _ rfl;have y9:=za f 9 _ rfl;obtain⟨qa,qc,U,_⟩:=zr A.out;have U:u7=.slice qa Q.length qc:=U;subst U;have J:Hid (qY (E.alloc (.cells #[int i64 leg,int i64 (j:Int),.bool false,int i64 c,int i64 a.pe,int i64 a.len,int i64 a.hei,int i64 a.cl,.bool a.all,int i64 a.be] 169)) W.heap.size (.slice qa Q.length qc) Q):=zp (zl bZ _) A.out;have s:Hid (Below W.heap.size W (E.alloc (.cells #[int i64 leg,int i64 (j:Int),.bool false,int i64 c,int i64 a.pe,int i64 a.len,int i64 a.hei,int i64 a.cl,.bool a.all,int i64 a.be] 169))):=zl I.out _;have e5:W.heap.size<=(E.alloc (.cells #[int i64 leg,int i64 (j:Int),.bool false,int i64 c,int i64 a.pe,int i64 a.len,int i64 a.hei,int i64 a.cl,.bool a.all,int i64 a.be] 169)).heap.size:=Nat.le_trans a6 s.out.size;have a9:Hid (∀ m u,([int i64 leg,int i64 (j:Int),.bool false,int i64 c,int i64 a.pe,int i64 a.len,int i64 a.hei,int i64 a.cl,.bool a.all,int i64 a.be]:List Value)[m]?=some u->(E.alloc (.cells #[int i64 leg,int i64 (j:Int),.bool false,int i64 c,int i64 a.pe,int i64 a.len,int i64 a.hei,int i64 a.cl,.bool a.all,int i64 a.be] 169)).cell? ((⟨E.heap.size,0,none⟩:Addr).add m)=some u):=World.news_of_block (heap_alloc_new E _);clear A f;go_wp2_with (first|(at_builtin;refine zu _ (by rfl) (.tmp 79) (.tmp 86) 166 (by rfl) W.heap.size 169 k0 (.agg #[int i64 0,int i64 0,.bool false,int i64 0,int i64 0,int i64 0,int i64 0,int i64 0,.bool false,int i64 0]) 10 80 Tryz.underlying166 ki f9 g0 g2 rfl (by decide) _ Q.length (zcP Q) (by rfl) J.out (some ⟨E.heap.size,0,none⟩) 1 1 [int i64 leg,int i64 (j:Int),.bool false,int i64 c,int i64 a.pe,int i64 a.len,int i64 a.hei,int i64 a.cl,.bool a.all,int i64 a.be] (by rfl) (fun h=>(by cases h)) (by rfl) (fun ad e=>by cases e;exact a9.out) (by intro u hu;simp at hu;rcases hu with rfl|rfl|rfl|rfl|rfl|rfl|rfl|rfl|rfl|rfl <;> rfl) (by unfold maxLen;omega) (by omega) e5 ?_;intro v9 w9 b7 b6))
          have HF:Hid (qY w9 W.heap.size v9 (P++qs false c a leg (j+1))):=by
           have e:P++qs false c a leg (j+1)=Q++[⟨leg,j,false,c,a⟩]:=by rw[HQ.out,List.append_assoc];congr 1;rw[qs,if_pos b5.out]
           show w9.ownsRow _ _ 10 v9 _ _
           rw[e,zbO,List.length_append];exact b7
          have d6:Hid (Below W.heap.size W w9):=s.out.grown b6 s.out.size (fun b hb=>by have:=(J.out.lt b hb).1;omega)
          clear y4 y5 y6 y7 y8 y9 b7 b6 J s a9;go_wp2;go_roundw
          case rel=>exact⟨j+1,by omega,by go_num,HF.out,d6.out⟩
          case measure=>simp[intOf];omega
        ·obtain rfl:j=3:=by omega
         have HF:Hid (qY wr W.heap.size u7 ((qJ true b.who d b.lg b.lgn)++qJ false c a y.lg (k+1))):=by
          have e:(qJ true b.who d b.lg b.lgn)++qJ false c a y.lg (k+1)=P++qs false c a leg 3:=by rw[HP.out,a8.out,List.append_assoc];rfl
          rw[e];exact B.out
         go_wp2;go_roundw
         case rel=>exact⟨k+1,by omega,by go_num,HF.out,t.out⟩
         case measure=>simp[intOf];omega
      ·obtain rfl:k=y.lgn:=by omega
       have b9:Hid (qY _ w.heap.size _ (qu x c y m)):=d7.out _ _ F.out n.out;have b8:=hI (zf g.out n.out);go_wp2;go_ret;exact⟨_,rfl,b9.out,b8.out⟩
    ·have dL:decide (zO y.kind)=false:=decide_eq_false hL
     have b9:Hid (qY wr w.heap.size u7 (qu x c y m)):=by
      have e:qu x c y m=(qJ true b.who d b.lg b.lgn):=d9.out.2 hL;rw[e];exact zC K.out g.out.size
     have b8:=hI (zf g.out H.out);have O:=zb BO.out H.out;have o0:=za O 0 _ rfl;go_wp2_with (first|(go_at_call 99;refine sC (zL _ _) ?_))
     go_ret;exact⟨_,rfl,b9.out,b8.out⟩
 ·have d9:Hid ((zO y.kind->qu x c y m=([]:List Wk)++qJ false c a y.lg y.lgn)/\(¬ zO y.kind->qu x c y m=([]:List Wk))):=by
   constructor
   ·intro h;unfold qu;rw[if_neg hF,if_pos h,e7.out]
   ·intro h;unfold qu;rw[if_neg hF,if_neg h];rfl
  have k5:(y.kind == 5)=false:=by rw[beq_eq_false_iff_ne];intro h;exact hF (.inl h)
  have k6:(y.kind == 6)=false:=by rw[beq_eq_false_iff_ne];intro h;exact hF (.inr (.inl h))
  have k8:(y.kind == 8)=false:=by rw[beq_eq_false_iff_ne];intro h;exact hF (.inr (.inr h))
  have f0:Hid (([]:List Wk).length<=3145728):=Nat.zero_le _;go_enter Tryz.func117,Tryz.ntmps117;go_upto_region 2 with fail;have BO:Hid (((w.alloc (.cells #[.slice a1 N a5,.slice a0 M a3,.slice Y R a2] 27)).alloc (.cells #[int i64 y.kind,.string y.own,int i64 y.name,.slice L y.lgn Z,int i64 y.pe,int i64 y.len,int i64 y.hei,int i64 y.cl,.bool y.all,int i64 y.be,int i64 y.unt,int i64 y.now] 120)).heap[w.heap.size+1]?=some (.cells #[int i64 y.kind,.string y.own,int i64 y.name,.slice L y.lgn Z,int i64 a.pe,int i64 a.len,int i64 a.hei,int i64 a.cl,.bool a.all,int i64 a.be,int i64 y.unt,int i64 y.now] 120 (0,0))):=by rw[e7.out];exact bO
  have g:=hI l;generalize (w.alloc (.cells #[.slice a1 N a5,.slice a0 M a3,.slice Y R a2] 27)).alloc (.cells #[int i64 y.kind,.string y.own,int i64 y.name,.slice L y.lgn Z,int i64 y.pe,int i64 y.len,int i64 y.hei,int i64 y.cl,.bool y.all,int i64 y.be,int i64 y.unt,int i64 y.now] 120)=W at l bF bO BO g ⊢;have i7:=za bO 0 _ rfl;have f1:=hI (g5.out.below g.out);have K:Hid (qY W W.heap.size (.slice none 0 0) ([]:List Wk)):=qY.nil _ _;have H:Hid (Below W.heap.size W W):=bZ;have a6:W.heap.size<=W.heap.size:=Nat.le_refl _;clear bF bO l hF f6 hm;go_upto_region 13 with fail;clear i7 k5 k6 k8
  by_cases hL:zO y.kind
  ·have dL:decide (zO y.kind)=true:=decide_eq_true hL
   have d7:Hid (∀ (z:World) (v:Value),qY z W.heap.size v (([]:List Wk)++qJ false c a y.lg y.lgn)->Below W.heap.size W z->qY z w.heap.size v (qu x c y m)):=fun z v h _=>by
    have e:qu x c y m=([]:List Wk)++qJ false c a y.lg y.lgn:=d9.out.1 hL;rw[e];exact zC h g.out.size
   have O:=zb BO.out H.out;have o0:=za O 0 _ rfl;have o3:=za O 3 _ rfl;go_wp2_with (first|(go_at_call 99;refine sC (zL _ _) ?_))
   clear o0 o3 O hL dL;have BX:Hid _:=BO;have d8:=hI f1;have D:=hI K;have a7:=hI H;have e0:(([]:List Wk)).length<=3145728:=f0.out;clear K H;go_loopw [7,13,14,67] (fun v _ _ i wr=>∃ k:Nat,k<=y.lgn/\i=int i64 k/\Hid (qY wr W.heap.size v (([]:List Wk)++qJ false c a y.lg k))/\Hid (Below W.heap.size W wr)) (fun _ _ _ i _=>y.lgn - (intOf i).toNat)
   case atStart=>exact⟨0,Nat.zero_le _,rfl,(by show qY _ _ _ (([]:List Wk)++[]);rw[List.append_nil];exact D.out),a7.out⟩
   case round =>
    clear D a7;obtain⟨k,hk,rfl,F,n⟩:=hrel
    by_cases hlt:k<y.lgn
    ·obtain⟨o,go,e2,T⟩:=d8.out k hlt
     subst e2;have G:wr.cell? ⟨o,go+k,none⟩=some (int i64 (y.lg k)):=(n.out.cell (p:=⟨o,go+k,none⟩) (World.block_lt_of_cell? W _ T)).trans T;obtain⟨leg,q⟩:∃ leg,leg=y.lg k:=⟨_,rfl⟩;rw[← q] at G;have a8:=hI q;have e4:(([]:List Wk)++qJ false c a y.lg k).length<=3145728+3*k:=by have h1:=QB false c a y.lg k;have h2:=e0;rw[List.length_append];omega
     obtain⟨P,hP⟩:∃ P,P=([]:List Wk)++qJ false c a y.lg k:=⟨_,rfl⟩;rw[← hP] at e4;have HP:=hI hP;have b0:Hid (qY wr W.heap.size u7 P):=by rw[hP];exact F.out
     clear q hP F T;go_wp2;clear G;obtain⟨wo,e6⟩:∃ z,z=wr:=⟨_,rfl⟩;subst e6;go_loopw [7,14] (fun v r wr=>∃ j:Nat,j<=3/\r=int i64 j/\Hid (qY wr W.heap.size v (P++qs false c a leg j))/\Hid (Below W.heap.size W wr)) (fun _ r _=>3 - (intOf r).toNat)
     case atStart=>exact⟨0,Nat.zero_le _,rfl,(by show qY _ _ _ (P++[]);rw[List.append_nil];exact b0.out),n.out⟩
     case round =>
      clear b0 n;obtain⟨j,hj,rfl,B,t⟩:=hrel
      by_cases hj3:j<3
      ·have f:=zb BX.out t.out
       have y4:=za f 4 _ rfl;have y5:=za f 5 _ rfl;have y6:=za f 6 _ rfl;have y7:=za f 7 _ rfl;have y8:=za f 8 _ rfl;have y9:=za f 9 _ rfl;have e3:=Q4 false c a leg j;obtain⟨Q,hQ⟩:∃ Q,Q=P++qs false c a leg j:=⟨_,rfl⟩;have h0:Q.length<=3145731+3*k:=by rw[hQ,List.length_append];omega
       rw[← hQ] at B;have HQ:=hI hQ;clear hQ e3;have cu:=zbN a.pe a.len a.hei a.cl a.be a.all j wr hj3;obtain⟨ub,X⟩:∃ ub,ub=zai a.len a.cl j:=⟨_,rfl⟩;rw[← X] at cu;have b5:=hI X.symm;clear X;go_wp2_with fail;refine cu.mono ?_;clear cu;rintro e E ⟨rfl,S⟩;have A:=hI (zp S B.out);have I:=hI (zf t.out S);clear B t S y4 y5 y6 y7 y8 y9 f
       cases ub with
       | false =>
        have HF:Hid (qY E W.heap.size u7 (P++qs false c a leg (j+1))):=by
         have e:qs false c a leg (j+1)=qs false c a leg j:=by rw[qs,if_neg (by rw[b5.out];decide)]
         rw[e,← HQ.out];exact A.out
        go_wp2;go_roundw
        case rel=>exact⟨j+1,by omega,by go_num,HF.out,I.out⟩
        case measure=>simp[intOf];omega
       | true =>
        have f:=zb BX.out I.out;have y4:=za f 4 _ rfl;have y5:=za f 5 _ rfl;have y6:=za f 6 _ rfl;have y7:=za f 7 _ rfl;have y8:=za f 8 _ rfl;have y9:=za f 9 _ rfl;obtain⟨qa,qc,U,_⟩:=zr A.out;have U:u7=.slice qa Q.length qc:=U;subst U;have J:Hid (qY (E.alloc (.cells #[int i64 leg,int i64 (j:Int),.bool false,int i64 c,int i64 a.pe,int i64 a.len,int i64 a.hei,int i64 a.cl,.bool a.all,int i64 a.be] 169)) W.heap.size (.slice qa Q.length qc) Q):=zp (zl bZ _) A.out;have s:Hid (Below W.heap.size W (E.alloc (.cells #[int i64 leg,int i64 (j:Int),.bool false,int i64 c,int i64 a.pe,int i64 a.len,int i64 a.hei,int i64 a.cl,.bool a.all,int i64 a.be] 169))):=zl I.out _;have e5:W.heap.size<=(E.alloc (.cells #[int i64 leg,int i64 (j:Int),.bool false,int i64 c,int i64 a.pe,int i64 a.len,int i64 a.hei,int i64 a.cl,.bool a.all,int i64 a.be] 169)).heap.size:=Nat.le_trans a6 s.out.size;have a9:Hid (∀ m u,([int i64 leg,int i64 (j:Int),.bool false,int i64 c,int i64 a.pe,int i64 a.len,int i64 a.hei,int i64 a.cl,.bool a.all,int i64 a.be]:List Value)[m]?=some u->(E.alloc (.cells #[int i64 leg,int i64 (j:Int),.bool false,int i64 c,int i64 a.pe,int i64 a.len,int i64 a.hei,int i64 a.cl,.bool a.all,int i64 a.be] 169)).cell? ((⟨E.heap.size,0,none⟩:Addr).add m)=some u):=World.news_of_block (heap_alloc_new E _);clear A f;go_wp2_with (first|(at_builtin;refine zu _ (by rfl) (.tmp 79) (.tmp 86) 166 (by rfl) W.heap.size 169 k0 (.agg #[int i64 0,int i64 0,.bool false,int i64 0,int i64 0,int i64 0,int i64 0,int i64 0,.bool false,int i64 0]) 10 80 Tryz.underlying166 ki f9 g0 g2 rfl (by decide) _ Q.length (zcP Q) (by rfl) J.out (some ⟨E.heap.size,0,none⟩) 1 1 [int i64 leg,int i64 (j:Int),.bool false,int i64 c,int i64 a.pe,int i64 a.len,int i64 a.hei,int i64 a.cl,.bool a.all,int i64 a.be] (by rfl) (fun h=>(by cases h)) (by rfl) (fun ad e=>by cases e;exact a9.out) (by intro u hu;simp at hu;rcases hu with rfl|rfl|rfl|rfl|rfl|rfl|rfl|rfl|rfl|rfl <;> rfl) (by unfold maxLen;omega) (by omega) e5 ?_;intro v9 w9 b7 b6))
        have HF:Hid (qY w9 W.heap.size v9 (P++qs false c a leg (j+1))):=by
         have e:P++qs false c a leg (j+1)=Q++[⟨leg,j,false,c,a⟩]:=by rw[HQ.out,List.append_assoc];congr 1;rw[qs,if_pos b5.out]
         show w9.ownsRow _ _ 10 v9 _ _
         rw[e,zbO,List.length_append];exact b7
        have d6:Hid (Below W.heap.size W w9):=s.out.grown b6 s.out.size (fun b hb=>by have:=(J.out.lt b hb).1;omega)
        clear y4 y5 y6 y7 y8 y9 b7 b6 J s a9;go_wp2;go_roundw
        case rel=>exact⟨j+1,by omega,by go_num,HF.out,d6.out⟩
        case measure=>simp[intOf];omega
      ·obtain rfl:j=3:=by omega
       have HF:Hid (qY wr W.heap.size u7 (([]:List Wk)++qJ false c a y.lg (k+1))):=by
        have e:([]:List Wk)++qJ false c a y.lg (k+1)=P++qs false c a leg 3:=by rw[HP.out,a8.out,List.append_assoc];rfl
        rw[e];exact B.out
       go_wp2;go_roundw
       case rel=>exact⟨k+1,by omega,by go_num,HF.out,t.out⟩
       case measure=>simp[intOf];omega
    ·obtain rfl:k=y.lgn:=by omega
     have b9:Hid (qY _ w.heap.size _ (qu x c y m)):=d7.out _ _ F.out n.out;have b8:=hI (zf g.out n.out);go_wp2;go_ret;exact⟨_,rfl,b9.out,b8.out⟩
  ·have dL:decide (zO y.kind)=false:=decide_eq_false hL
   have b9:Hid (qY W w.heap.size (.slice none 0 0) (qu x c y m)):=by
    have e:qu x c y m=([]:List Wk):=d9.out.2 hL;rw[e];exact zC K.out g.out.size
   have b8:=hI (zf g.out H.out);have O:=zb BO.out H.out;have o0:=za O 0 _ rfl;go_wp2_with (first|(go_at_call 99;refine sC (zL _ _) ?_))
   go_ret;exact⟨_,rfl,b9.out,b8.out⟩
end Go.Proofs.YtgmdnkngnhkgbaaGreat
