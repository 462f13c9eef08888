import Derived.RowKit
import Derived.JoinedOf
import Derived.ProofKit
import Derived.OpenShut
import Derived.ChangeOld
import Derived.SizedLaws
import Derived.Deep.Slices
import Derived.Deep.Strs
import Derived.Lib.SmallJoins
import Derived.Test.YtmdnjgihooflfaaGreatDoorB00
namespace Go.Proofs.YtmdnjgihooflfaaGreatDoor
open Go.RowKit
open Go.Value (int)
open Go.IntKind (i64)
open _root_.Go.Proofs.Tryz
set_option maxHeartbeats 64000000
set_option maxRecDepth 1000000
variable{w w':World}{g t k0 N base:Nat}{u0 u1 u2 v:Value}{A B C:Nat->Value}
theorem RC (a:Int)(b:Int)(c:Int)(d:Int)(w:World) :
  Calls prog 229 #[.agg #[a,b,c,d]] w λe w'=>e=.returned (.agg #[a,b,c,d])/\Below w w w':=by
 go_enter func229,ntmps229;go_wp2;exact Jj (by simp[results,results229,go_sem]) rfl ⟨rfl,zd (zd (zd bZ _) _) _⟩
theorem OZ (a:Int)(b:Int)(c:Int)(d:Int)(w:World) :
  Calls prog 257 #[.agg #[a,b,c,d],.agg #[a,b,c,d]] w λe w'=>e=.returned (.bool true)/\Below w w w':=by
 go_enter func257,ntmps257;go_wp2;go_ret;exact⟨rfl,zd (zd bZ _) _⟩
/-- toStayS: a copy in a new row. -/
theorem Pa (u:Option Addr)(n p:Nat)(S:Nat->ql)(w:World)(hn:n<=1048576)(z:qx w u n S) :
  Calls prog 174 #[(u,n,p)] w λe w'=>∃ g,e=.returned (some (g,0),n,n)/\w.heap.size<=g /\
   w'.rowIs g 220 (n*4) (qv S)/\Below w w w':=by
 obtain⟨A,y,r,s,t⟩:=info_parts Tryz.infoStay;go_enter func174,ntmps174;go_wp2_with (first|(at_make;refine wpList_make_full _ rfl _ _ 141 rfl _ 220 A _ 4 underlying141 y r s _ _ _ _ n rfl rfl rfl rfl (by rw[t];omega) (by unfold maxLen;omega) (Jr _) ?_;intro w1 l d))
 go_loopw [4] (λi wr=>∃ k,k<=n/\i=int i64 k/\wr.rowIs w 220 (n*4) (qv (QM k S ql.zero))/\Below w w wr)
  (λi _=>n - (intOf i).toNat)
 case atStart=>exact⟨0,Jq _,rfl,(ZW l).congr (λj v=>RB n j v),bZ.grown d (Jr _) sM⟩
 case round =>
  obtain⟨k,hk,rfl,m,f⟩:=hrel;clear l d
  by_cases hlt:k<n
  ·obtain⟨b,off,rfl,q,h1,h2,h3⟩:=z k oM
   have x:=Ja w _ q;obtain⟨c0,c1,c2,c3⟩:=OP f q h1 h2 h3 x;clear q h1 h2 h3;go_wp2_with (first|(go_at_call 229;refine bM (RC _ _ _ _ _) λw2 o=>?_;have c:=m.of_block (o.block _ m.lt);have o0:=c.cell (i:=k*4) oM;have o1:=c.cell (i:=k*4+1) oM;have o2:=c.cell (i:=k*4+2) oM;have o3:=c.cell (i:=k*4+3) oM;have f0:=c.frozen (k*4);have f1:=c.frozen (k*4+1);have f2:=c.frozen (k*4+2);have f3:=c.frozen (k*4+3)))
   go_roundw
   case rel =>
    refine⟨k+1,by omega,by go_num,?_,?_⟩
    ·have:=ey (S':=QM _ S _) c (λi h=>QJ _ _ _ _ h)
     simp only[qi _ _ (Nat.lt_succ_self k)] at this;exact this
    ·exact(((((zb f o).setCell (Jr _) _).setCell (Jr _) _).setCell (Jr _) _).setCell (Jr _) _)
   case measure=>simp[intOf];omega
  ·go_wp2
   go_ret;exact⟨_,rfl,Jr _,m.congr (λj v=>by unfold qv;rw[qi _ _ oM]),f⟩
/-- eqStayS at two lists that are one. -/
theorem Nz (p bo:Option Addr)(n c1 c2:Nat)(S:Nat->ql)(w:World)(hn:n<=2097152)(z:qx w p n S)(A:qx w bo n S) :
  Calls prog 219 #[(p,n,c1),(bo,n,c2)] w λe w'=>e=.returned (.bool true)/\Below w w w':=by
 go_enter func219,ntmps219;go_wp2;go_loopw [5] (λi wr=>∃ k,k<=n/\i=int i64 k/\Below w w wr) (λi _=>n - (intOf i).toNat)
 case atStart=>exact⟨0,Jq _,rfl,bZ⟩
 case round =>
  obtain⟨k,hk,rfl,a⟩:=hrel
  by_cases hlt:k<n
  ·obtain⟨b,off,rfl,o,h1,h2,h3⟩:=z k oM
   obtain⟨j,f,rfl,m,v,x,y⟩:=A k oM;have l:=Ja w _ o;have g:=Ja w _ m;have q:=tR a o l;have r:=tR a m g;have c1:=tR a h1 l;have s:=tR a v g;have c2:=tR a h2 l;have t:=tR a x g;have c3:=tR a h3 l;have u:=tR a y g;clear o m h1 v h2 x h3 y;have h:b<wr.heap.size:=Nat.lt_of_lt_of_le l a.size;have d:j<wr.heap.size:=Nat.lt_of_lt_of_le g a.size;have i1:=n0 k;have i2:(k:Int)<(n:Int):=oM;go_wp2;go_region_held3 (λw'=>w'.cell? (b,off+k*4)=some (S k).e/\w'.cell? (b,off+k*4+1)=some (S k).ln/\w'.cell? (b,off+k*4+2)=some (S k).f/\w'.cell? (b,off+k*4+3)=some (S k).j/\w'.cell? (j,f+k*4)=some (S k).e/\w'.cell? (j,f+k*4+1)=some (S k).ln/\w'.cell? (j,f+k*4+2)=some (S k).f/\w'.cell? (j,f+k*4+3)=some (S k).j)
    (first|exact⟨q,c1,c2,c3,r,s,t,u⟩|exact⟨tR c q h,tR c c1 h,tR c c2 h,tR c c3 h,tR c r d,tR c s d,tR c t d,tR c u d⟩)
    (first|(go_at_call 257;refine bM (OZ _ _ _ _ _) λw2 c=>?_))
   go_wp2;go_roundw
   case rel=>exact⟨k+1,by omega,by go_num,zb a.drew c⟩
   case measure=>simp[intOf];omega
  ·go_wp2
   go_ret;exact⟨rfl,a⟩
theorem Pb (a:Option Addr)(n c:Nat)(L:Int)(w:World)(h0:0<=L)(hL:L<=1048576)(hn:n<=1000000000000000) :
  Calls prog 143 #[(a,n,c),L] w λe w'=>∃ r:Int,e=.returned r/\(r=-1∨(0<=r/\r<=L/\n<=1048576))/\Below w w w':=by
 by_cases h:(n:Int)<=L
 ·go_enter func143,ntmps143
  go_wp2;go_ret;exact⟨_,rfl,.inr ⟨by omega,by omega,by omega⟩,bZ⟩
 ·go_enter func143,ntmps143
  go_wp2;go_ret;exact⟨_,rfl,.inl rfl,bZ⟩
theorem RE (a:Int)(b:Int)(c:Int)(d:Bool)(w:World) :
  Calls prog 230 #[.agg #[a,b,c,d]] w λe w'=>e=.returned (.agg #[a,b,c,d])/\Below w w w':=by
 go_enter func230,ntmps230;go_wp2;exact Jj (by simp[results,results230,go_sem]) rfl ⟨rfl,zd (zd (zd bZ _) _) _⟩
theorem Pc (a:Int)(b:Int)(c:Int)(d:Bool)(w:World) :
  Calls prog 258 #[.agg #[a,b,c,d],.agg #[a,b,c,d]] w λe w'=>e=.returned (.bool true)/\Below w w w':=by
 go_enter func258,ntmps258;go_wp2;go_ret;exact⟨rfl,zd (zd bZ _) _⟩
/-- toRoomS: a copy in a new row. -/
theorem Pd (u:Option Addr)(n p:Nat)(S:Nat->zU)(w:World)(hn:n<=1048576)(z:qn w u n S) :
  Calls prog 175 #[(u,n,p)] w λe w'=>∃ g,e=.returned (some (g,0),n,n)/\w.heap.size<=g /\
   w'.rowIs g 228 (n*4) (qs S)/\Below w w w':=by
 obtain⟨A,y,r,s,t⟩:=info_parts Tryz.infoRoom;go_enter func175,ntmps175;go_wp2_with (first|(at_make;refine wpList_make_full _ rfl _ _ 142 rfl _ 228 A _ 4 underlying142 y r s _ _ _ _ n rfl rfl rfl rfl (by rw[t];omega) (by unfold maxLen;omega) (Jr _) ?_;intro w1 l d))
 go_loopw [4] (λi wr=>∃ k,k<=n/\i=int i64 k/\wr.rowIs w 228 (n*4) (qs (QM k S zU.zero))/\Below w w wr)
  (λi _=>n - (intOf i).toNat)
 case atStart=>exact⟨0,Jq _,rfl,(ZW l).congr (λj v=>RD n j v),bZ.grown d (Jr _) sM⟩
 case round =>
  obtain⟨k,hk,rfl,m,f⟩:=hrel;clear l d
  by_cases hlt:k<n
  ·obtain⟨b,off,rfl,q,h1,h2,h3⟩:=z k oM
   have x:=Ja w _ q;obtain⟨c0,c1,c2,c3⟩:=OP f q h1 h2 h3 x;clear q h1 h2 h3;go_wp2_with (first|(go_at_call 230;refine bM (RE _ _ _ _ _) λw2 o=>?_;have c:=m.of_block (o.block _ m.lt);have o0:=c.cell (i:=k*4) oM;have o1:=c.cell (i:=k*4+1) oM;have o2:=c.cell (i:=k*4+2) oM;have o3:=c.cell (i:=k*4+3) oM;have f0:=c.frozen (k*4);have f1:=c.frozen (k*4+1);have f2:=c.frozen (k*4+2);have f3:=c.frozen (k*4+3)))
   go_roundw
   case rel =>
    refine⟨k+1,by omega,by go_num,?_,?_⟩
    ·have:=ez (S':=QM _ S _) c (λi h=>QJ _ _ _ _ h)
     simp only[qi _ _ (Nat.lt_succ_self k)] at this;exact this
    ·exact(((((zb f o).setCell (Jr _) _).setCell (Jr _) _).setCell (Jr _) _).setCell (Jr _) _)
   case measure=>simp[intOf];omega
  ·go_wp2
   go_ret;exact⟨_,rfl,Jr _,m.congr (λj v=>by unfold qs;rw[qi _ _ oM]),f⟩
/-- eqRoomS at two lists that are one. -/
theorem NA (p bo:Option Addr)(n c1 c2:Nat)(S:Nat->zU)(w:World)(hn:n<=2097152)(z:qn w p n S)(A:qn w bo n S) :
  Calls prog 220 #[(p,n,c1),(bo,n,c2)] w λe w'=>e=.returned (.bool true)/\Below w w w':=by
 go_enter func220,ntmps220;go_wp2;go_loopw [5] (λi wr=>∃ k,k<=n/\i=int i64 k/\Below w w wr) (λi _=>n - (intOf i).toNat)
 case atStart=>exact⟨0,Jq _,rfl,bZ⟩
 case round =>
  obtain⟨k,hk,rfl,a⟩:=hrel
  by_cases hlt:k<n
  ·obtain⟨b,off,rfl,o,h1,h2,h3⟩:=z k oM
   obtain⟨j,f,rfl,m,v,x,y⟩:=A k oM;have l:=Ja w _ o;have g:=Ja w _ m;have q:=tR a o l;have r:=tR a m g;have c1:=tR a h1 l;have s:=tR a v g;have c2:=tR a h2 l;have t:=tR a x g;have c3:=tR a h3 l;have u:=tR a y g;clear o m h1 v h2 x h3 y;have h:b<wr.heap.size:=Nat.lt_of_lt_of_le l a.size;have d:j<wr.heap.size:=Nat.lt_of_lt_of_le g a.size;have i1:=n0 k;have i2:(k:Int)<(n:Int):=oM;go_wp2;go_region_held3 (λw'=>w'.cell? (b,off+k*4)=some (S k).e/\w'.cell? (b,off+k*4+1)=some (S k).H/\w'.cell? (b,off+k*4+2)=some (S k).z/\w'.cell? (b,off+k*4+3)=some (S k).h/\w'.cell? (j,f+k*4)=some (S k).e/\w'.cell? (j,f+k*4+1)=some (S k).H/\w'.cell? (j,f+k*4+2)=some (S k).z/\w'.cell? (j,f+k*4+3)=some (S k).h)
    (first|exact⟨q,c1,c2,c3,r,s,t,u⟩|exact⟨tR c q h,tR c c1 h,tR c c2 h,tR c c3 h,tR c r d,tR c s d,tR c t d,tR c u d⟩)
    (first|(go_at_call 258;refine bM (Pc _ _ _ _ _) λw2 c=>?_))
   go_wp2;go_roundw
   case rel=>exact⟨k+1,by omega,by go_num,zb a.drew c⟩
   case measure=>simp[intOf];omega
  ·go_wp2
   go_ret;exact⟨rfl,a⟩
theorem Pe (a:Option Addr)(n c:Nat)(L:Int)(w:World)(h0:0<=L)(hL:L<=1048576)(hn:n<=1000000000000000) :
  Calls prog 144 #[(a,n,c),L] w λe w'=>∃ r:Int,e=.returned r/\(r=-1∨(0<=r/\r<=L/\n<=1048576))/\Below w w w':=by
 by_cases h:(n:Int)<=L
 ·go_enter func144,ntmps144
  go_wp2;go_ret;exact⟨_,rfl,.inr ⟨by omega,by omega,by omega⟩,bZ⟩
 ·go_enter func144,ntmps144
  go_wp2;go_ret;exact⟨_,rfl,.inl rfl,bZ⟩
theorem RI (a:Int)(b:Int)(w:World) :
  Calls prog 231 #[.agg #[a,b]] w λe w'=>e=.returned (.agg #[a,b])/\Below w w w':=by
 go_enter func231,ntmps231;go_wp2;exact Jj (by simp[results,results231,go_sem]) rfl ⟨rfl,zd (zd (zd bZ _) _) _⟩
theorem Pf (a:Int)(b:Int)(w:World) :
  Calls prog 259 #[.agg #[a,b],.agg #[a,b]] w λe w'=>e=.returned (.bool true)/\Below w w w':=by
 go_enter func259,ntmps259;go_wp2;go_ret;exact⟨rfl,zd (zd bZ _) _⟩
/-- toSeatS: a copy in a new row. -/
theorem Pg (u:Option Addr)(n p:Nat)(S:Nat->qO)(w:World)(hn:n<=1048576)(z:qC w u n S) :
  Calls prog 176 #[(u,n,p)] w λe w'=>∃ g,e=.returned (some (g,0),n,n)/\w.heap.size<=g /\
   w'.rowIs g 234 (n*2) (qK S)/\Below w w w':=by
 obtain⟨A,y,r,s,t⟩:=info_parts Tryz.infoSeat;go_enter func176,ntmps176;go_wp2_with (first|(at_make;refine wpList_make_full _ rfl _ _ 143 rfl _ 234 A _ 2 underlying143 y r s _ _ _ _ n rfl rfl rfl rfl (by rw[t];omega) (by unfold maxLen;omega) (Jr _) ?_;intro w1 f d))
 go_loopw [4] (λi wr=>∃ k,k<=n/\i=int i64 k/\wr.rowIs w 234 (n*2) (qK (QM k S qO.zero))/\Below w w wr)
  (λi _=>n - (intOf i).toNat)
 case atStart=>exact⟨0,Jq _,rfl,(ZW f).congr (λj x=>RH n j x),bZ.grown d (Jr _) sM⟩
 case round =>
  obtain⟨k,hk,rfl,m,c⟩:=hrel;clear f d
  by_cases hlt:k<n
  ·obtain⟨b,off,rfl,q,h1⟩:=z k oM
   have v:=Ja w _ q;have c0:=tR c q v;have c1:=tR c h1 v;clear q h1;go_wp2_with (first|(go_at_call 231;refine bM (RI _ _ _) λw2 o=>?_;have l:=m.of_block (o.block _ m.lt);have o0:=l.cell (i:=k*2) oM;have o1:=l.cell (i:=k*2+1) oM;have f0:=l.frozen (k*2);have f1:=l.frozen (k*2+1)))
   go_roundw
   case rel =>
    refine⟨k+1,by omega,by go_num,?_,?_⟩
    ·have:=fa (S':=QM _ S _) l (λi h=>QJ _ _ _ _ h)
     simp only[qi _ _ (Nat.lt_succ_self k)] at this;exact this
    ·exact(((zb c o).setCell (Jr _) _).setCell (Jr _) _)
   case measure=>simp[intOf];omega
  ·go_wp2
   go_ret;exact⟨_,rfl,Jr _,m.congr (λj x=>by unfold qK;rw[qi _ _ oM]),c⟩
/-- eqSeatS at two lists that are one. -/
theorem NC (p bo:Option Addr)(n c1 c2:Nat)(S:Nat->qO)(w:World)(hn:n<=2097152)(u:qC w p n S)(v:qC w bo n S) :
  Calls prog 221 #[(p,n,c1),(bo,n,c2)] w λe w'=>e=.returned (.bool true)/\Below w w w':=by
 go_enter func221,ntmps221;go_wp2;go_loopw [5] (λi wr=>∃ k,k<=n/\i=int i64 k/\Below w w wr) (λi _=>n - (intOf i).toNat)
 case atStart=>exact⟨0,Jq _,rfl,bZ⟩
 case round =>
  obtain⟨k,hk,rfl,a⟩:=hrel
  by_cases hlt:k<n
  ·obtain⟨b,off,rfl,m,h1⟩:=u k oM
   obtain⟨j,f,rfl,l,t⟩:=v k oM;have o:=Ja w _ m;have g:=Ja w _ l;have q:=tR a m o;have r:=tR a l g;have c1:=tR a h1 o;have s:=tR a t g;clear m l h1 t;have h:b<wr.heap.size:=Nat.lt_of_lt_of_le o a.size;have d:j<wr.heap.size:=Nat.lt_of_lt_of_le g a.size;have i1:=n0 k;have i2:(k:Int)<(n:Int):=oM;go_wp2;go_region_held3 (λw'=>w'.cell? (b,off+k*2)=some (S k).e/\w'.cell? (b,off+k*2+1)=some (S k).z/\w'.cell? (j,f+k*2)=some (S k).e/\w'.cell? (j,f+k*2+1)=some (S k).z)
    (first|exact⟨q,c1,r,s⟩|exact⟨tR c q h,tR c c1 h,tR c r d,tR c s d⟩)
    (first|(go_at_call 259;refine bM (Pf _ _ _) λw2 c=>?_))
   go_wp2;go_roundw
   case rel=>exact⟨k+1,by omega,by go_num,zb a.drew c⟩
   case measure=>simp[intOf];omega
  ·go_wp2
   go_ret;exact⟨rfl,a⟩
theorem Ph (a:Option Addr)(n c:Nat)(L:Int)(w:World)(h0:0<=L)(hL:L<=1048576)(hn:n<=1000000000000000) :
  Calls prog 145 #[(a,n,c),L] w λe w'=>∃ r:Int,e=.returned r/\(r=-1∨(0<=r/\r<=L/\n<=1048576))/\Below w w w':=by
 by_cases h:(n:Int)<=L
 ·go_enter func145,ntmps145
  go_wp2;go_ret;exact⟨_,rfl,.inr ⟨by omega,by omega,by omega⟩,bZ⟩
 ·go_enter func145,ntmps145
  go_wp2;go_ret;exact⟨_,rfl,.inl rfl,bZ⟩
theorem ND {v0:Value}(h:w.heap[g]?=some (.cells #[u0,u1,u2] t (0,0))):(qA w g 0 [v0]).heap[g]?=some (.cells #[v0,u1,u2] t (0,0)):=by
 have:=(zk h 0 v0);simp only[qA]
 simpa using this
theorem NE {v1:Value}(h:w.heap[g]?=some (.cells #[u0,u1,u2] t (0,0))):(qA w g 1 [v1]).heap[g]?=some (.cells #[u0,v1,u2] t (0,0)):=by
 have:=(zk h 1 v1);simp only[qA]
 simpa using this
theorem NF {v2:Value}(h:w.heap[g]?=some (.cells #[u0,u1,u2] t (0,0))):(qA w g 2 [v2]).heap[g]?=some (.cells #[u0,u1,v2] t (0,0)):=by
 have:=(zk h 2 v2);simp only[qA]
 simpa using this
theorem NG {v0 v1 v2:Value}(h:w.heap[g]?=some (.cells #[u0,u1,u2] t (0,0))):(qA w g 0 [v0,v1,v2]).heap[g]?=some (.cells #[v0,v1,v2] t (0,0)):=by
 have:=(zk (zk (zk h 0 v0) 1 v1) 2 v2);simp only[qA]
 simpa using this
theorem RJ (l:Option Addr)(stn o:Nat)(j:Option Addr)(ron m:Nat)(k:Option Addr)(sen n:Nat)(L:Int)(w:World)(h0:0<=L)(hL:L<=1048576)(t:stn<=1000000000000000)(q:ron<=1000000000000000)(s:sen<=1000000000000000) :
  Calls prog 79 #[.agg #[(l,stn,o),(j,ron,m),(k,sen,n)],L] w λe w'=>∃ r:Int,e=.returned r/\(r=-1∨(0<=r/\r<=L/\stn<=1048576/\ron<=1048576/\sen<=1048576))/\Below w w w':=by
 have p:Below _ w (w.alloc (.cells #[(l,stn,o),(j,ron,m),(k,sen,n)] 132)):=zd bZ _;have u:=Qc p;go_enter func79,ntmps79;go_wp2_with fail;refine(Pb l stn o (L) _ oM oM t).mono ?_;rintro e w0 ⟨J,rfl,v,c⟩;have a:=za u c;have g:=zb p c
 rcases v with rfl|⟨z,K,A⟩
 ·go_wp2
  go_ret;exact⟨_,rfl,.inl rfl,g⟩
 ·have d0:decide (J<0)=false:=by simpa using z
  have G:=bC a 1;have H:=bC a 2;go_wp2_with fail;refine(Pe j ron m _ _ oM oM q).mono ?_;rintro e w1 ⟨M,rfl,x,d⟩;have b:=za a d;have h:=zb g d
  rcases x with rfl|⟨B,N,C⟩
  ·go_wp2
   go_ret;exact⟨_,rfl,.inl rfl,h⟩
  ·have d1:decide (M<0)=false:=by simpa using B
   have I:=bC b 2;go_wp2_with fail;refine(Ph k sen n _ _ oM oM s).mono ?_;rintro e w2 ⟨O,rfl,y,f⟩;have F:=za b f;have i:=zb h f
   rcases y with rfl|⟨D,P,E⟩
   ·go_wp2
    go_ret;exact⟨_,rfl,.inl rfl,i⟩
   ·have d2:decide (O<0)=false:=by simpa using D
    go_wp2;go_ret;exact⟨_,rfl,.inr ⟨by omega,by omega,A,C,E⟩,i⟩
theorem RK (m:Option Addr)(stn q:Nat)(st:Nat->ql)(k:Option Addr)(ron o:Nat)(ro:Nat->zU)(l:Option Addr)(sen p:Nat)(se:Nat->qO)(w:World)(b5:stn<=1048576)(b3:ron<=1048576)(b4:sen<=1048576)(b2:qx w m stn st)(b0:qn w k ron ro)(b1:qC w l sen se) :
  Calls prog 95 #[.agg #[(m,stn,q),(k,ron,o),(l,sen,p)]] w λe w'=>∃ d f g,e=.returned (.agg #[(some (d,0),stn,stn),(some (f,0),ron,ron),(some (g,0),sen,sen)])/\(w.heap.size<=d/\d<w'.heap.size/\w'.rowIs d 220 (stn*4) (qv st))/\(w.heap.size<=f/\f<w'.heap.size/\w'.rowIs f 228 (ron*4) (qs ro))/\(w.heap.size<=g/\g<w'.heap.size/\w'.rowIs g 234 (sen*2) (qK se))/\Below w w w':=by
 go_enter func95,ntmps95;go_wp2_with fail;obtain⟨W0,y⟩:=nM ((((w.alloc (.cells #[(m,stn,q),(k,ron,o),(l,sen,p)] 132)).alloc (.cells #[True,True,True] 145)).alloc (.cells #[True,True,True] 145)));have H0:Below w w W0:=by rw[y];exact zd (zd (zd bZ _) _) _
 have A0:W0.heap[w.heap.size]?=some (.cells #[(m,stn,q),(k,ron,o),(l,sen,p)] 132 (0,0)):=by rw[y];exact zg (zg (Jb w _) _) _
 have R0:W0.heap[w.heap.size+1]?=some (.cells #[True,True,True] 145 (0,0)):=by rw[y];exact zg (by simpa using Jb (w.alloc _) _) _
 have O0:W0.heap[w.heap.size+1+1]?=some (.cells #[True,True,True] 145 (0,0)):=by rw[y];simpa using Jb ((w.alloc _).alloc _) _
 rw[← y];clear y;refine(Pa m stn q st _ b5 (b2.j0 H0)).mono ?_;rintro e v0 ⟨d,rfl,a2,a,A⟩;have K:=za A0 A;have V:=za R0 A;have C:=za O0 A;have S:=zb H0 A;have c9:w.heap.size+1+1<d:=by have:=zD O0;omega
 have Z:w.heap.size<=d:=oM;clear A0 R0 O0 H0 A a2;have b6:=bC K 1;have O:=bC C 0;have a7:=zc C 0;go_wp2_with fail;clear b6 a7 O;obtain⟨Q,r⟩:=nM (qA v0 (w.heap.size+1+1) 0 [(some (d,0),stn,stn)]);have A1:Q.heap[w.heap.size]?=some (.cells #[(m,stn,q),(k,ron,o),(l,sen,p)] 132 (0,0)):=by rw[r];exact qk oM _ _ _ K
 have R1:Q.heap[w.heap.size+1]?=some (.cells #[True,True,True] 145 (0,0)):=by rw[r];exact qk oM _ _ _ V
 have O1:Q.heap[w.heap.size+1+1]?=some (.cells #[(some (d,0),stn,stn),True,True] 145 (0,0)):=by rw[r];exact ND C
 have H1:Below w w Q:=by rw[r];exact Zi oM _ _ _ S
 have b:Q.rowIs d 220 (stn*4) (qv st):=by rw[r];exact qJ oM _ _ _ a
 have a3:Q=(v0.setCell (w.heap.size+1+1,0) (some (d,0),stn,stn)):=by rw[r];rfl
 rw[← a3];clear r a3 K V C S a;have a:=b;clear b;refine(Pd k ron o ro _ b3 (b0.j0 H1)).mono ?_;rintro e v1 ⟨f,rfl,a0,c,z⟩;have L:=za A1 z;have W:=za R1 z;have D:=za O1 z;have T:=zb H1 z;have v:=qo a z;have b9:w.heap.size+1+1<f:=by have:=zD O1;omega
 have X:w.heap.size<=f:=oM;clear A1 R1 O1 H1 z a0 a;have a:=v;clear v;have b7:=bC L 2;have P:=bC D 1;have a8:=zc D 1;go_wp2_with fail;clear b7 a8 P;obtain⟨M,n⟩:=nM (qA v1 (w.heap.size+1+1) 1 [(some (f,0),ron,ron)]);have A2:M.heap[w.heap.size]?=some (.cells #[(m,stn,q),(k,ron,o),(l,sen,p)] 132 (0,0)):=by rw[n];exact qk oM _ _ _ L
 have R2:M.heap[w.heap.size+1]?=some (.cells #[True,True,True] 145 (0,0)):=by rw[n];exact qk oM _ _ _ W
 have O2:M.heap[w.heap.size+1+1]?=some (.cells #[(some (d,0),stn,stn),(some (f,0),ron,ron),True] 145 (0,0)):=by rw[n];exact NE D
 have H2:Below w w M:=by rw[n];exact Zi oM _ _ _ T
 have b:M.rowIs d 220 (stn*4) (qv st):=by rw[n];exact qJ oM _ _ _ a
 have h:M.rowIs f 228 (ron*4) (qs ro):=by rw[n];exact qJ oM _ _ _ c
 have a4:M=(v1.setCell (w.heap.size+1+1,1) (some (f,0),ron,ron)):=by rw[n];rfl
 rw[← a4];clear n a4 L W D T a c;have a:=b;clear b;have c:=h;clear h;refine(Pg l sen p se _ b4 (b1.j0 H2)).mono ?_;rintro e v2 ⟨g,rfl,a1,j,s⟩;have R:=za A2 s;have G:=za R2 s;have E:=za O2 s;have U:=zb H2 s;have x:=qo a s;have t:=qo c s;have c0:w.heap.size+1+1<g:=by have:=zD O2;omega
 have Y:w.heap.size<=g:=oM;clear A2 R2 O2 H2 s a1 a c;have a:=x;clear x;have c:=t;clear t;obtain⟨O,P,b8⟩:=ZE E;have a9:=zc E 2;obtain⟨y0,y1,y2⟩:=ZE G;obtain⟨z0,z1,z2⟩:=FM G;go_wp2;clear a9 O P b8 z0 y0 z1 y1 z2 y2;obtain⟨B,i⟩:=nM (qA v2 (w.heap.size+1+1) 2 [(some (g,0),sen,sen)]);have A3:B.heap[w.heap.size]?=some (.cells #[(m,stn,q),(k,ron,o),(l,sen,p)] 132 (0,0)):=by rw[i];exact qk oM _ _ _ R
 have R3:B.heap[w.heap.size+1]?=some (.cells #[True,True,True] 145 (0,0)):=by rw[i];exact qk oM _ _ _ G
 have O3:B.heap[w.heap.size+1+1]?=some (.cells #[(some (d,0),stn,stn),(some (f,0),ron,ron),(some (g,0),sen,sen)] 145 (0,0)):=by rw[i];exact NF E
 have H3:Below w w B:=by rw[i];exact Zi oM _ _ _ U
 have b:B.rowIs d 220 (stn*4) (qv st):=by rw[i];exact qJ oM _ _ _ a
 have h:B.rowIs f 228 (ron*4) (qs ro):=by rw[i];exact qJ oM _ _ _ c
 have u:B.rowIs g 234 (sen*2) (qK se):=by rw[i];exact qJ oM _ _ _ j
 have a5:B=(v2.setCell (w.heap.size+1+1,2) (some (g,0),sen,sen)):=by rw[i];rfl
 rw[← a5];clear i a5 R G E U a c j;have a:=b;clear b;have c:=h;clear h;have j:=u;clear u;obtain⟨F,N⟩:=nM (qA B (w.heap.size+1) 0 [(some (d,0),stn,stn),(some (f,0),ron,ron),(some (g,0),sen,sen)]);have RF:F.heap[w.heap.size+1]?=some (.cells #[(some (d,0),stn,stn),(some (f,0),ron,ron),(some (g,0),sen,sen)] 145 (0,0)):=by rw[N];exact NG R3
 have HF:Below w w F:=by rw[N];exact Zi oM _ _ _ H3
 have J:F.rowIs d 220 (stn*4) (qv st):=by rw[N];exact qJ oM _ _ _ a
 have H:F.rowIs f 228 (ron*4) (qs ro):=by rw[N];exact qJ oM _ _ _ c
 have I:F.rowIs g 234 (sen*2) (qK se):=by rw[N];exact qJ oM _ _ _ j
 have a6:F=(((B.setCell (w.heap.size+1,0) (some (d,0),stn,stn)).setCell (w.heap.size+1,1) (some (f,0),ron,ron)).setCell (w.heap.size+1,2) (some (g,0),sen,sen)):=by rw[N];rfl
 rw[← a6];clear N a6;obtain⟨z0,z1,z2⟩:=ZE RF;exact Jj (by simp[results,results95,go_sem,z0,z1,z2]) rfl ⟨d,f,g,rfl,⟨Z,J.lt,J⟩,⟨X,H.lt,H⟩,⟨Y,I.lt,I⟩,HF⟩
theorem RL (g:Option Addr)(stn q:Nat)(st:Nat->ql)(d:Option Addr)(ron o:Nat)(ro:Nat->zU)(f:Option Addr)(sen p:Nat)(se:Nat->qO)(c:Option Addr)(m:Nat)(a:Option Addr)(k:Nat)(b:Option Addr)(l:Nat)(w:World)(O:stn<=1048576)(M:ron<=1048576)(N:sen<=1048576)(G:qx w g stn st)(E:qn w d ron ro)(F:qC w f sen se)(t:qx w c stn st)(r:qn w a ron ro)(s:qC w b sen se) :
  Calls prog 124 #[.agg #[(g,stn,q),(d,ron,o),(f,sen,p)],.agg #[(c,stn,m),(a,ron,k),(b,sen,l)]] w λe w'=>e=.returned (.bool true)/\Below w w w':=by
 have n:Below _ w ((w.alloc (.cells #[(g,stn,q),(d,ron,o),(f,sen,p)] 145)).alloc (.cells #[(c,stn,m),(a,ron,k),(b,sen,l)] 145)):=zd (zd bZ _) _;have y:=Cs n;have B:=Dt n;go_enter func124,ntmps124;go_wp2_with fail;generalize (w.alloc _).alloc _=v at n y B ⊢;refine bM (Nz g _ stn q _ st _ oM (G.j0 n) (t.j0 n)) λv0 h=>?_
 have z:=za y h;have C:=za B h;have u:=zb n h;clear y B n h;have H:=bC z 1;have J:=bC C 1;go_wp2_with fail;clear H J;refine bM (NA d _ ron o _ ro _ oM (E.j0 u) (r.j0 u)) λv1 i=>?_
 have A:=za z i;have D:=za C i;have x:=zb u i;clear z C u i;have I:=bC A 2;have K:=bC D 2;go_wp2_with fail;clear I K;refine bM (NC f _ sen p _ se _ oM (F.j0 x) (s.j0 x)) λv2 j=>?_
 have A3:=za A j;have B3:=za D j;have L:=zb x j;clear A D x j;go_wp2;go_ret;exact⟨rfl,L⟩
theorem RN (cs:List Value)(x:zw)(L:Int)(w:World)(l:0<=L)(m:L<=1048576)(o:zw.Short x 1000000000000000)(h:zw.Is w cs x) :
  Calls prog 79 #[.agg cs.toArray,L] w λe w'=>∃ r:Int,e=.returned r/\(r=-1∨(0<=r/\r<=L/\zw.Short x 1048576))/\Below w w w':=by
 obtain⟨g,k,d,i,f,j,rfl,q,u,n,s,p,t⟩:=h;obtain⟨c,a,b⟩:=o;exact RJ _ _ _ _ _ _ _ _ _ L w l m c a b
theorem RO (cs:List Value)(x:zw)(w:World)(y:zw.Short x 1048576)(h:zw.Is w cs x) :
  Calls prog 95 #[.agg cs.toArray] w λe w'=>∃ cs',e=.returned (.agg cs'.toArray)/\zw.In w' w.heap.size w'.heap.size cs' x/\Below w w w':=by
 obtain⟨q,t,o,r,p,s,rfl,g,B,d,z,f,A⟩:=h;obtain⟨c,a,b⟩:=y;refine(RK _ _ _ _ _ _ _ _ _ _ _ _ w c a b g d f).mono ?_;rintro e w' ⟨k,i,j,v,n,l,m,u⟩;exact⟨_,v,⟨k,i,j,rfl,n,l,m⟩,u⟩
theorem Pi (cs r:List Value)(x:zw)(w:World)(E:zw.Short x 1048576)(h:zw.Is w cs x)(D:zw.Is w r x) :
  Calls prog 124 #[.agg cs.toArray,.agg r.toArray] w λe w'=>e=.returned (.bool true)/\Below w w w':=by
 obtain⟨z,C,v,A,y,B,rfl,k,H,i,F,j,G⟩:=h;obtain⟨n,q,l,o,m,p,rfl,c,u,a,s,b,t⟩:=D;obtain⟨g,d,f⟩:=E;exact RL _ _ _ _ _ _ _ _ _ _ _ _ _ _ _ _ _ _ w g d f k i j c a b
theorem Pj (G:Option Addr)(N c:Nat)(S:Nat->zw)(g:Int)(w:World)(h0:0<=g)(R:g<=1048576)(hN:N<=1000000000000000)(J:Zy N S 1000000000000000)(K:ZA w G N S) :
  Calls prog 39 #[(G,N,c),g] w λe w'=>∃ r:Int,e=.returned r/\(r=-1∨(0<=r/\r<=g/\N<=1048576/\Zy N S 1048576))/\Below w w w':=by
 have P:=hI J;have Q:=hI K;clear J K
 by_cases hf:(N:Int)<=g
 ·have H:decide (g - (N:Int)<0)=false:=by simp;omega
  go_enter func39,ntmps39;go_wp2;go_loopw [1,5] (λl i wr=>∃ (k:Nat) (L:Int),k<=N/\i=int i64 k/\l=int i64 L/\0<=L/\L<=g/\Zy k S 1048576/\Below w w wr) (λ_ i _=>N - (intOf i).toNat)
  case atStart=>exact⟨0,_,Jq _,rfl,rfl,by omega,by omega,λi T=>by omega,bZ⟩
  case round =>
   obtain⟨k,L,hk,rfl,rfl,M,U,f,a⟩:=hrel;have F:=hI f;clear f H
   by_cases hlt:k<N
   ·obtain⟨C,I,hI⟩:=Q
    obtain⟨b,off,rfl,v⟩:=I k hlt;have h:Hid (zw.Is w _ _):=hI k hlt;obtain⟨n,s,j,o,m,q,t,f,E,z,B,A,D⟩:=hI k hlt;have d:b<w.heap.size:=Ja w _ (v 0 dC);have c0:wr.cell? _=some (.slice n _ s):=(a.cell (p:=⟨b,off+_,_⟩) d).trans (rC t (v 0 dC));have c1:wr.cell? _=some (.slice j _ o):=(a.cell d).trans (rC t (v 1 dC));have c2:wr.cell? _=some (.slice m _ q):=(a.cell d).trans (rC t (v 2 dC));have x:Hid (zw.Is wr [(n,(S k).r,s),(j,(S k).m,o),(m,(S k).t,q)] (S k)):=by show zw.Is wr _ _;rw[← t];exact h.j0 a
    have y:Hid (zw.Short _ 1000000000000000):=P k hlt;clear I hI v t h f E z B A D;go_wp2_with fail;refine(RN _ _ L _ M oM y x).mono ?_;rintro e w2 ⟨r,rfl,hr,u⟩
    rcases hr with rfl|⟨O,r1,V⟩
    ·go_wp2
     go_ret;exact⟨_,rfl,.inl rfl,zb a u⟩
    ·have d1:decide (r<0)=false:=by simpa using O
     go_wp2;go_roundw
     case rel =>
      refine⟨k+1,r,by omega,by go_num,rfl,O,by omega,λi T=>?_,zb a u⟩
      by_cases e:i=k
      ·subst e;exact V
      ·exact F i oM
     case measure=>simp[intOf];omega
   ·obtain rfl:k=N:=by omega
    go_wp2;go_ret;exact⟨_,rfl,.inr ⟨M,U,by omega,F⟩,a⟩
 ·have H:decide (g - (N:Int)<0)=true:=by simp;omega
  go_enter func39,ntmps39;go_wp2;go_ret;exact⟨_,rfl,.inl rfl,bZ⟩
theorem Tryz.infoLoad:(Tryz.prog.info? 145).map (λi=>(i.zero,i.size,i.bytes))=some (some (.agg #[True,True,True]),3,72):=kR
/-- toLoadS: a copy, its lists in new memory behind its own row. -/
theorem Pk (ao:Option Addr)(N T:Nat)(S:Nat->zw)(w:World)(hN:N<=1048576)(hs:Zy N S 1048576)(hz:ZA w ao N S) :
  Calls prog 46 #[(ao,N,T)] w λe w'=>∃ g C,e=.returned (some (g,0),N,N)/\Am w' N w.heap.size w'.heap.size g N S C/\Below w w w':=by
 obtain⟨i0,U,Z,a0,a1⟩:=info_parts Tryz.infoLoad;have HS:=hI hs;have HX:=hI hz;clear hs hz;go_enter func46,ntmps46;go_wp2_with (first|(at_make;refine wpList_make_full _ rfl _ _ 35 rfl _ 145 i0 _ 3 underlying35 U Z a0 _ _ _ _ N rfl rfl rfl rfl (by rw[a1];omega) (by unfold maxLen;omega) (Jr _) ?_;intro w1 f l))
 go_loopw [4] (λi wr=>∃ (k:Nat) (C:_),k<=N/\i=int i64 k/\Am wr k w.heap.size wr.heap.size w.heap.size N S C/\Below w w wr)
  (λi _=>N - (intOf i).toNat)
 case atStart=>exact⟨0,λ_=>[],Jq _,rfl,⟨(ZW f).congr (λj hj=>(Ft (z:=#[_,_,_]) (sz:=3) rfl N j hj).trans (by unfold qd;rw[BU _ _ oM])),Jr _,(ZW f).lt,λi U=>by omega⟩,bZ.grown l (Jr _) sM⟩
 case round =>
  obtain⟨k,C,hk,rfl,n,c⟩:=hrel;clear f l
  by_cases hlt:k<N
  ·obtain⟨E,hE,hI⟩:=HX
   obtain⟨b,off,rfl,K⟩:=hE k hlt;have y:Hid (zw.Is w _ _):=hI k hlt;obtain⟨D,H,A,F,B,G,I,Y,a4,V,a2,X,a3⟩:=hI k hlt;have m:b<w.heap.size:=Ja w _ (K 0 dC);have c0:wr.cell? _=some (.slice D _ H):=(c.cell (p:=⟨b,off+_,_⟩) m).trans (rC I (K 0 dC));have c1:wr.cell? _=some (.slice A _ F):=(c.cell m).trans (rC I (K 1 dC));have c2:wr.cell? _=some (.slice B _ G):=(c.cell m).trans (rC I (K 2 dC));have Q:Hid (zw.Is wr [(D,(S k).r,H),(A,(S k).m,F),(B,(S k).t,G)] (S k)):=by show zw.Is wr _ _;rw[← I];exact y.j0 c
   have R:Hid (zw.Short _ 1048576):=HS k hlt;have o:Hid _:=n;clear hE hI K I y n Y a4 V a2 X a3;go_wp2_with fail;refine(RO _ _ _ R Q).mono ?_;rintro e O ⟨cs',rfl,L,s⟩;have P:=hI L;obtain⟨v,t,u,rfl,_,_,_⟩:=L;unfold Zw;have d:=(o.j0 s).wide (Jr _) s.size;have a5:=o.ghi;clear c0 c1 c2;have o0:=d.row.cell (i:=k*3) oM;have f0:=d.row.frozen (k*3);have o1:=d.row.cell (i:=k*3+1) oM;have f1:=d.row.frozen (k*3+1);have o2:=d.row.cell (i:=k*3+2) oM;have f2:=d.row.frozen (k*3+2);have r:=hI d;clear d;go_wp2;go_roundw
   case rel =>
    clear o0 f0 o1 f1 o2 f2;obtain⟨W,J⟩:=nM (qA O w.heap.size (k*3) [(some (v,0),(S k).r,(S k).r),(some (t,0),(S k).m,(S k).m),(some (u,0),(S k).t,(S k).t)]);have hC:W=(((O.setCell (w.heap.size,k*3) (some (v,0),(S k).r,(S k).r)).setCell (w.heap.size,k*3+1) (some (t,0),(S k).m,(S k).m)).setCell (w.heap.size,k*3+2) (some (u,0),(S k).t,(S k).t)):=by rw[J];rfl
    rw[← hC];clear hC;have M:zl O W (λx=>x=w.heap.size):=by rw[J];exact Ei (S:=λx=>x=w.heap.size) rfl _ _ _ (zl.refl _ _)
    have q:W.heap.size=O.heap.size:=by rw[J,Ej]
    refine⟨k+1,λi=>if i=k then [(some (v,0),(S k).r,(S k).r),(some (t,0),(S k).m,(S k).m),(some (u,0),(S k).t,(S k).t)] else C i,by omega,by go_num,⟨?_,Jr _,by rw[q];exact r.ghi,λi U=>?_⟩,by rw[J];exact Zi (Jr _) _ _ _ (zb c s)⟩
    ·rw[J]
     refine To r.row rfl dC (λi e=>?_) ?_
     ·rw[QJ _ _ _ _ e];unfold QM;by_cases h:i<k
      ·rw[Jf h,Jf h];exact Je e
      ·rw[Je h,Je h]
     ·rw[qi _ _ (Nat.lt_succ_self k)];exact Jf rfl
    ·rw[q]
     by_cases e:i=k
     ·subst e
      rw[Jf rfl];exact(P.wide oM (Jr _)).kept M (λb h=>by left;omega)
     ·rw[Je e]
      exact(r.each i oM).kept M (λb h=>by left;omega)
   case measure=>simp[intOf];omega
  ·obtain rfl:k=N:=by omega
   go_wp2;go_ret;exact⟨_,C,rfl,n,c⟩
/-- eqLoadS at two lists that are one. -/
theorem NH (Q bo:Option Addr)(N c1 c2:Nat)(S:Nat->zw)(w:World)(hN:N<=1048576)(hs:Zy N S 1048576)(hx:ZA w Q N S)(hy:ZA w bo N S) :
  Calls prog 58 #[(Q,N,c1),(bo,N,c2)] w λe w'=>e=.returned (.bool true)/\Below w w w':=by
 have HS:=hI hs;have HX:=hI hx;have HY:=hI hy;clear hs hx hy;go_enter func58,ntmps58;go_wp2;go_loopw [5] (λi wr=>∃ k,k<=N/\i=int i64 k/\Below w w wr) (λi _=>N - (intOf i).toNat)
 case atStart=>exact⟨0,Jq _,rfl,bZ⟩
 case round =>
  obtain⟨k,hk,rfl,a⟩:=hrel
  by_cases hlt:k<N
  ·obtain⟨C,Z,hI⟩:=HX
   obtain⟨D,hD,F⟩:=HY;obtain⟨b,off,rfl,j⟩:=Z k hlt;obtain⟨V,q,rfl,l⟩:=hD k hlt;have c:Hid (zw.Is w _ _):=hI k hlt;have d:Hid (zw.Is w _ _):=F k hlt;obtain⟨z,E,x,A,y,B,f,J,P,H,M,I,O⟩:=hI k hlt;obtain⟨U,Y,R,W,T,X,h,o,t,m,r,n,s⟩:=F k hlt;have K:b<w.heap.size:=Ja w _ (j 0 dC);have L:V<w.heap.size:=Ja w _ (l 0 dC);have i1:=n0 k;have i2:(k:Int)<(N:Int):=oM;have z0:∀ g:zy wr,g.val.cell? _=some (.slice z _ E):=λg=>((a.trans (g.o.mono a.size)).cell (p:=⟨b,off+_,_⟩) K).trans (by have:=j 0 (by decide);rw[f] at this;exact this)
   have y0:∀ g:zy wr,g.val.cell? _=some (.slice _ _ _):=λg=>((a.trans (g.o.mono a.size)).cell (p:=⟨V,q+_,_⟩) L).trans (by have:=l 0 (by decide);rw[h] at this;exact this)
   have z1:∀ g:zy wr,g.val.cell? _=some (.slice x _ A):=λg=>((a.trans (g.o.mono a.size)).cell K).trans (by have:=j 1 (by decide);rw[f] at this;exact this)
   have y1:∀ g:zy wr,g.val.cell? _=some (.slice _ _ _):=λg=>((a.trans (g.o.mono a.size)).cell L).trans (by have:=l 1 (by decide);rw[h] at this;exact this)
   have z2:∀ g:zy wr,g.val.cell? _=some (.slice y _ B):=λg=>((a.trans (g.o.mono a.size)).cell K).trans (by have:=j 2 (by decide);rw[f] at this;exact this)
   have y2:∀ g:zy wr,g.val.cell? _=some (.slice _ _ _):=λg=>((a.trans (g.o.mono a.size)).cell L).trans (by have:=l 2 (by decide);rw[h] at this;exact this)
   have ZI:Hid (∀ g:zy wr,zw.Is _ [_,_,_] _):=λg=>by rw[← f];exact(c.j0 a).j0 g.o
   have ZJ:Hid (∀ g:zy wr,zw.Is _ [_,_,_] _):=λg=>by rw[← h];exact(d.j0 a).j0 g.o
   have u:Hid (zw.Short _ 1048576):=HS k hlt;clear Z hI hD F j l f h c d J P o t H M m r I O n s;go_upto_region 6 with fail;refine ze (by kernel_rfl) (by kernel_rfl) ?_
   repeat(first|go_big_quiet_skip|(go_big_quiet_want;go_big_quiet_op;first|go_big_quiet_on|(apply Jg;refine⟨λg=>?_,?_⟩;(focus(first|(go_at_call 124;refine zr (v:=.bool true) ((Pi _ _ _ _ u (ZI g) (ZJ g)).mono ?_);rintro e w2 ⟨rfl,G⟩;exact⟨rfl,G⟩)));go_big_quiet_on)))
   refine Jl ?_;rintro _ ⟨g,rfl⟩;clear z0 y0 z1 y1 z2 y2;go_wp2;go_roundw
   case rel=>exact⟨k+1,by omega,by go_num,zb a g.o⟩
   case measure=>simp[intOf];omega
  ·go_wp2
   go_ret;exact⟨rfl,a⟩
def Cu (k:Nat)(p:zv):zv:=⟨p.n,λi=>(k+2*i:Nat),λi=>(k+2*i+1:Nat)⟩
theorem Lz (k:Nat)(p:zv)(j:Nat):qj (Cu k p) j=int i64 ((k+j:Nat):Int):=by
 unfold qj Cu
 by_cases h:j % 2=0
 ·rw[Jf h];show Value.int _ ((_:Nat):Int)=_;rw[show k+2*(j / 2)=k+j by omega]
 ·rw[Je h];show Value.int _ ((_:Nat):Int)=_;rw[show k+2*(j / 2)+1=k+j by omega]
theorem cz (m:Option Addr)(c base k0:Nat)(p:zv)(w:World)(F:p.n<=1048576)(h1:k0<=100000000000000)(y:w.ownsRow base 223 2 (m,p.n,c) p.n (qu p)) :
  Calls prog 127 #[(m,p.n,c),(k0:Int)] w λe w'=>e=.returned ((k0+2*p.n:Nat):Int)/\w'.ownsRow base 223 2 (m,p.n,c) p.n (qu (Cu k0 p))/\zl w w' (λb=>(Value.slice m p.n c).ownBlock=some b):=by
 obtain⟨n,l⟩:=nM p.n;rw[← l] at F y ⊢;have o:=hI l;clear l;go_enter func127,ntmps127;go_wp2;go_loopw [1,5] (λq i wr=>∃ (t k:Nat),t<=n/\i=int i64 t/\q=int i64 k/\k=k0+2*t/\wr.ownsRow base 223 2 (m,n,c) n ((List.range (n*2)).map (λj=>if j<t*2 then int i64 ((k0+j:Nat):Int) else qj p j))/\zl w wr (λb=>(Value.slice m n c).ownBlock=some b)) (λ_ i _=>n - (intOf i).toNat)
 case atStart =>
  refine⟨0,k0,Jq _,rfl,rfl,by omega,?_,zl.refl _ _⟩
  have:(List.range (n*2)).map (λj=>if j<0*2 then int i64 ((k0+j:Nat):Int) else qj p j)=qu p:=by
   unfold qu;rw[← o.out];exact List.map_congr_left (λj _=>Je oM)
  rw[this];exact y
 case round =>
  clear y;obtain⟨t,k,ht,rfl,rfl,r,d,x⟩:=hrel;have f:=hI r;have kb:k<=200000000000000:=oM;clear r
  by_cases hlt:t<n
  ·obtain⟨g,rfl,_,_⟩:=qr d oM
   obtain⟨v0,B⟩:∃ v,_=some v:=⟨_,zs d (t*2) oM rfl⟩;obtain⟨v1,C⟩:∃ v,_=some v:=⟨_,zs d (t*2+1) oM rfl⟩;have D:=d.frozenAt (t*2);have E:=d.frozenAt (t*2+1);have h:Hid _:=d;have s:=hI x;clear d x;go_wp2;go_roundw
   case rel =>
    refine⟨t+1,k+2,by omega,by go_num,by go_num,by have:=f.out;omega,qX (zI (zI h.out _ _) _ _) (λj A=>?_),(s.set (a:=⟨g,t*2,_⟩) rfl _).set (a:=⟨g,_+1,_⟩) rfl _⟩
    have z:=f
    by_cases h1:j=t*2+1
    ·rw[Jf h1,Jf oM];congr 1;subst h1;subst z;omega
    ·rw[Je h1]
     by_cases h0:j=t*2
     ·rw[Jf h0,Jf oM];congr 1;subst h0;subst z;omega
     ·rw[Je h0]
      by_cases h2:j<t*2
      ·rw[Jf h2,Jf oM]
      ·rw[Je h2,Je oM]
   case measure=>simp[intOf];omega
  ·obtain rfl:t=n:=by omega
   have h:Hid _:=d;clear d;go_wp2;go_ret;refine⟨by rw[f.out];rfl,?_,x⟩
   have:qu (Cu k0 p)=(List.range (t*2)).map (λj=>if j<t*2 then int i64 ((k0+j:Nat):Int) else qj p j):=by
    unfold qu;rw[show(Cu k0 p).n=t from o.symm];refine List.map_congr_left (λj A=>?_)
    have u:=by simpa using A
    rw[Jf u,Lz]
   rw[this];exact h
theorem dc (g:Option Addr)(c k0:Nat)(p:zv)(w:World)(o:p.n<=1048576)(h1:k0<=100000000000000)(h:zJ w g (Cu k0 p)) :
  Calls prog 132 #[(g,p.n,c),(k0:Int)] w λe w'=>e=.returned ((k0+2*p.n:Nat):Int)/\w'=w:=by
 obtain⟨n,f⟩:=nM p.n;have l:Hid (∀ j,j<n->∃ b off,g=some ⟨b,off,none⟩/\w.cell? ⟨b,off+j*2,none⟩=some (int i64 ((k0+2*j:Nat):Int))/\w.cell? ⟨b,off+j*2+1,none⟩=some (int i64 ((k0+2*j+1:Nat):Int))):=by rw[f];exact h
 rw[← f] at o ⊢;clear f h;go_enter func132,ntmps132;go_wp2;go_loopw [1,5] (λq i wr=>∃ (t k:Nat),t<=n/\i=int i64 t/\q=int i64 k/\k=k0+2*t/\wr=w) (λ_ i _=>n - (intOf i).toNat)
 case atStart=>exact⟨0,k0,Jq _,rfl,rfl,by omega,rfl⟩
 case round =>
  obtain⟨t,k,ht,rfl,rfl,a,rfl⟩:=hrel;have kb:k<=200000000000000:=oM
  by_cases hlt:t<n
  ·obtain⟨b,off,rfl,m,c1⟩:=l t hlt
   rw[← a] at m c1;have d:=hI a;have c1:wr.cell? (b,off+t*2+1)=some (int i64 ((k:Int)+1)):=by rw[c1];rfl
   have i1:=n0 t;have i2:(t:Int)<(n:Int):=oM;clear a;go_wp2;go_roundw
   case rel=>exact⟨t+1,k+2,by omega,by go_num,by go_num,by have:=d.out;omega,trivial⟩
   case measure=>simp[intOf];omega
  ·obtain rfl:t=n:=by omega
   have d:=hI a;clear a;go_wp2;go_ret;exact⟨by rw[d.out];rfl,rfl⟩
theorem Tc (m:Option Addr)(c base k0:Nat)(p:zv)(w:World)(F:p.n<=1048576)(h1:k0<=100000000000000)(y:w.ownsRow base 231 2 (m,p.n,c) p.n (qu p)) :
  Calls prog 128 #[(m,p.n,c),(k0:Int)] w λe w'=>e=.returned ((k0+2*p.n:Nat):Int)/\w'.ownsRow base 231 2 (m,p.n,c) p.n (qu (Cu k0 p))/\zl w w' (λb=>(Value.slice m p.n c).ownBlock=some b):=by
 obtain⟨n,l⟩:=nM p.n;rw[← l] at F y ⊢;have o:=hI l;clear l;go_enter func128,ntmps128;go_wp2;go_loopw [1,5] (λq i wr=>∃ (t k:Nat),t<=n/\i=int i64 t/\q=int i64 k/\k=k0+2*t/\wr.ownsRow base 231 2 (m,n,c) n ((List.range (n*2)).map (λj=>if j<t*2 then int i64 ((k0+j:Nat):Int) else qj p j))/\zl w wr (λb=>(Value.slice m n c).ownBlock=some b)) (λ_ i _=>n - (intOf i).toNat)
 case atStart =>
  refine⟨0,k0,Jq _,rfl,rfl,by omega,?_,zl.refl _ _⟩
  have:(List.range (n*2)).map (λj=>if j<0*2 then int i64 ((k0+j:Nat):Int) else qj p j)=qu p:=by
   unfold qu;rw[← o.out];exact List.map_congr_left (λj _=>Je oM)
  rw[this];exact y
 case round =>
  clear y;obtain⟨t,k,ht,rfl,rfl,r,d,x⟩:=hrel;have f:=hI r;have kb:k<=200000000000000:=oM;clear r
  by_cases hlt:t<n
  ·obtain⟨g,rfl,_,_⟩:=qr d oM
   obtain⟨v0,B⟩:∃ v,_=some v:=⟨_,zs d (t*2) oM rfl⟩;obtain⟨v1,C⟩:∃ v,_=some v:=⟨_,zs d (t*2+1) oM rfl⟩;have D:=d.frozenAt (t*2);have E:=d.frozenAt (t*2+1);have h:Hid _:=d;have s:=hI x;clear d x;go_wp2;go_roundw
   case rel =>
    refine⟨t+1,k+2,by omega,by go_num,by go_num,by have:=f.out;omega,qX (zI (zI h.out _ _) _ _) (λj A=>?_),(s.set (a:=⟨g,t*2,_⟩) rfl _).set (a:=⟨g,_+1,_⟩) rfl _⟩
    have z:=f
    by_cases h1:j=t*2+1
    ·rw[Jf h1,Jf oM];congr 1;subst h1;subst z;omega
    ·rw[Je h1]
     by_cases h0:j=t*2
     ·rw[Jf h0,Jf oM];congr 1;subst h0;subst z;omega
     ·rw[Je h0]
      by_cases h2:j<t*2
      ·rw[Jf h2,Jf oM]
      ·rw[Je h2,Je oM]
   case measure=>simp[intOf];omega
  ·obtain rfl:t=n:=by omega
   have h:Hid _:=d;clear d;go_wp2;go_ret;refine⟨by rw[f.out];rfl,?_,x⟩
   have:qu (Cu k0 p)=(List.range (t*2)).map (λj=>if j<t*2 then int i64 ((k0+j:Nat):Int) else qj p j):=by
    unfold qu;rw[show(Cu k0 p).n=t from o.symm];refine List.map_congr_left (λj A=>?_)
    have u:=by simpa using A
    rw[Jf u,Lz]
   rw[this];exact h
theorem Td (g:Option Addr)(c k0:Nat)(p:zv)(w:World)(o:p.n<=1048576)(h1:k0<=100000000000000)(h:zJ w g (Cu k0 p)) :
  Calls prog 133 #[(g,p.n,c),(k0:Int)] w λe w'=>e=.returned ((k0+2*p.n:Nat):Int)/\w'=w:=by
 obtain⟨n,f⟩:=nM p.n;have l:Hid (∀ j,j<n->∃ b off,g=some ⟨b,off,none⟩/\w.cell? ⟨b,off+j*2,none⟩=some (int i64 ((k0+2*j:Nat):Int))/\w.cell? ⟨b,off+j*2+1,none⟩=some (int i64 ((k0+2*j+1:Nat):Int))):=by rw[f];exact h
 rw[← f] at o ⊢;clear f h;go_enter func133,ntmps133;go_wp2;go_loopw [1,5] (λq i wr=>∃ (t k:Nat),t<=n/\i=int i64 t/\q=int i64 k/\k=k0+2*t/\wr=w) (λ_ i _=>n - (intOf i).toNat)
 case atStart=>exact⟨0,k0,Jq _,rfl,rfl,by omega,rfl⟩
 case round =>
  obtain⟨t,k,ht,rfl,rfl,a,rfl⟩:=hrel;have kb:k<=200000000000000:=oM
  by_cases hlt:t<n
  ·obtain⟨b,off,rfl,m,c1⟩:=l t hlt
   rw[← a] at m c1;have d:=hI a;have c1:wr.cell? (b,off+t*2+1)=some (int i64 ((k:Int)+1)):=by rw[c1];rfl
   have i1:=n0 t;have i2:(t:Int)<(n:Int):=oM;clear a;go_wp2;go_roundw
   case rel=>exact⟨t+1,k+2,by omega,by go_num,by go_num,by have:=d.out;omega,trivial⟩
   case measure=>simp[intOf];omega
  ·obtain rfl:t=n:=by omega
   have d:=hI a;clear a;go_wp2;go_ret;exact⟨by rw[d.out];rfl,rfl⟩
def Qm (k0:Int)(t:Nat):ql:=⟨k0+4*t,k0+4*t+1,k0+4*t+2,k0+4*t+3⟩
theorem FX (f:Option Addr)(n c base:Nat)(S:Nat->ql)(k0:Int)(w:World)(hn:n<=2097152)(k:0<=k0)(h1:k0<=1000000000000000)(D:w.ownsRow base 220 4 (f,n,c) n (zH S n)) :
  Calls prog 129 #[(f,n,c),k0] w λe w'=>e=.returned (int i64 (k0+4*n))/\w'.ownsRow base 220 4 (f,n,c) n (zH (Qm k0) n)/\zl w w' (λb=>(Value.slice f n c).ownBlock=some b):=by
 go_enter func129,ntmps129;go_wp2;go_loopw [1,5] (λq i wr=>∃ (t:Nat),t<=n/\i=int i64 t/\q=int i64 (k0+4*t)/\wr.ownsRow base 220 4 (f,n,c) n ((List.range (n*4)).map (qv (λi=>if i<t then Qm k0 i else S i)))/\zl w wr (λb=>(Value.slice f n c).ownBlock=some b)) (λ_ i _=>n - (intOf i).toNat)
 case atStart=>exact⟨0,Jq _,rfl,by simp,by simpa [zH] using D,zl.refl _ _⟩
 case round =>
  obtain⟨t,ht,rfl,rfl,d,u⟩:=hrel
  by_cases hlt:t<n
  ·obtain⟨g,rfl,A,B⟩:=qr d oM
   have l:=zs d (t*4) oM rfl;have v:=d.frozenAt (t*4);rw[BG] at l;have m:=zs d (t*4+1) oM rfl;have x:=d.frozenAt (t*4+1);rw[BH] at m;have o:=zs d (t*4+2) oM rfl;have y:=d.frozenAt (t*4+2);rw[BI] at o;have p:=zs d (t*4+3) oM rfl;have z:=d.frozenAt (t*4+3);rw[BJ] at p;go_wp2;go_roundw
   case rel =>
    refine⟨t+1,by omega,by go_num,by go_num,qX (zI (zI (zI (zI d _ _) _ _) _ _) _ _) (λj hj=>?_),((((u.set (a:=⟨g,t*4,_⟩) rfl _).set (a:=⟨g,_+1,_⟩) rfl _).set (a:=⟨g,_+2,_⟩) rfl _).set (a:=⟨g,_+3,_⟩) rfl _)⟩
    have s:∀ (S'),(∀ i,i≠t->S' i=(if i<t then Qm k0 i else S i))->(S' t=Qm k0 t)->qv S' j=qv (λi=>if i<t+1 then Qm k0 i else S i) j:=by
     intro S' h1 h2;unfold qv;have:S' (j / 4)=(if j / 4<t+1 then Qm k0 (j / 4) else S (j / 4)):=by
      by_cases e:j / 4=t
      ·rw[e,h2,Jf oM]
      ·rw[h1 _ e]
       by_cases e2:j / 4<t
       ·rw[Jf e2,Jf oM]
       ·rw[Je e2,Je oM]
     rw[this]
    rw[← s (λi=>if i=t then Qm k0 t else _) (λi h=>Je h) (Jf rfl)]
    by_cases h3:j=t*4+3
    ·subst h3;rw[Jf rfl,BJ,Jf rfl];simp[Qm];try omega
    rw[Je h3]
    by_cases h2:j=t*4+2
    ·subst h2;rw[Jf rfl,BI,Jf rfl];simp[Qm];try omega
    rw[Je h2]
    by_cases h1:j=t*4+1
    ·subst h1;rw[Jf rfl,BH,Jf rfl];simp[Qm];try omega
    rw[Je h1]
    by_cases k:j=t*4
    ·subst k;rw[Jf rfl,BG,Jf rfl];simp[Qm];try omega
    rw[Je k];have r:j / 4≠t:=oM;unfold qv;simp only[Je r]
   case measure=>simp[intOf];omega
  ·obtain rfl:t=n:=by omega
   go_wp2;go_ret;refine⟨rfl,?_,u⟩;rw[Da (S':=λi=>if i<t then _ else S i) (λi C=>(Jf C).symm)]
   exact d
def Qn (k0:Int)(t:Nat):zU:=⟨k0+4*t,k0+4*t+1,k0+4*t+2,((k0+4*(t:Int)+3) % 3 == 0)⟩
theorem FY (f:Option Addr)(n c base:Nat)(S:Nat->zU)(k0:Int)(w:World)(hn:n<=2097152)(k:0<=k0)(h1:k0<=1000000000000000)(D:w.ownsRow base 228 4 (f,n,c) n (zF S n)) :
  Calls prog 130 #[(f,n,c),k0] w λe w'=>e=.returned (int i64 (k0+4*n))/\w'.ownsRow base 228 4 (f,n,c) n (zF (Qn k0) n)/\zl w w' (λb=>(Value.slice f n c).ownBlock=some b):=by
 go_enter func130,ntmps130;go_wp2;go_loopw [1,5] (λq i wr=>∃ (t:Nat),t<=n/\i=int i64 t/\q=int i64 (k0+4*t)/\wr.ownsRow base 228 4 (f,n,c) n ((List.range (n*4)).map (qs (λi=>if i<t then Qn k0 i else S i)))/\zl w wr (λb=>(Value.slice f n c).ownBlock=some b)) (λ_ i _=>n - (intOf i).toNat)
 case atStart=>exact⟨0,Jq _,rfl,by simp,by simpa [zF] using D,zl.refl _ _⟩
 case round =>
  obtain⟨t,ht,rfl,rfl,d,u⟩:=hrel
  by_cases hlt:t<n
  ·obtain⟨g,rfl,A,B⟩:=qr d oM
   have l:=zs d (t*4) oM rfl;have v:=d.frozenAt (t*4);rw[Ba] at l;have m:=zs d (t*4+1) oM rfl;have x:=d.frozenAt (t*4+1);rw[Bc] at m;have o:=zs d (t*4+2) oM rfl;have y:=d.frozenAt (t*4+2);rw[Bd] at o;have p:=zs d (t*4+3) oM rfl;have z:=d.frozenAt (t*4+3);rw[Be] at p;go_wp2;go_roundw
   case rel =>
    refine⟨t+1,by omega,by go_num,by go_num,qX (zI (zI (zI (zI d _ _) _ _) _ _) _ _) (λj hj=>?_),((((u.set (a:=⟨g,t*4,_⟩) rfl _).set (a:=⟨g,_+1,_⟩) rfl _).set (a:=⟨g,_+2,_⟩) rfl _).set (a:=⟨g,_+3,_⟩) rfl _)⟩
    have s:∀ (S'),(∀ i,i≠t->S' i=(if i<t then Qn k0 i else S i))->(S' t=Qn k0 t)->qs S' j=qs (λi=>if i<t+1 then Qn k0 i else S i) j:=by
     intro S' h1 h2;unfold qs;have:S' (j / 4)=(if j / 4<t+1 then Qn k0 (j / 4) else S (j / 4)):=by
      by_cases e:j / 4=t
      ·rw[e,h2,Jf oM]
      ·rw[h1 _ e]
       by_cases e2:j / 4<t
       ·rw[Jf e2,Jf oM]
       ·rw[Je e2,Je oM]
     rw[this]
    rw[← s (λi=>if i=t then Qn k0 t else _) (λi h=>Je h) (Jf rfl)]
    by_cases h3:j=t*4+3
    ·subst h3;rw[Jf rfl,Be,Jf rfl];simp only[Qn];rw[show k0+4*(t:Int)+1+1+1=k0+4*(t:Int)+3 by omega]
    rw[Je h3]
    by_cases h2:j=t*4+2
    ·subst h2;rw[Jf rfl,Bd,Jf rfl];simp[Qn];try omega
    rw[Je h2]
    by_cases h1:j=t*4+1
    ·subst h1;rw[Jf rfl,Bc,Jf rfl];simp[Qn];try omega
    rw[Je h1]
    by_cases k:j=t*4
    ·subst k;rw[Jf rfl,Ba,Jf rfl];simp[Qn];try omega
    rw[Je k];have r:j / 4≠t:=oM;unfold qs;simp only[Je r]
   case measure=>simp[intOf];omega
  ·obtain rfl:t=n:=by omega
   go_wp2;go_ret;refine⟨rfl,?_,u⟩;rw[EX (S':=λi=>if i<t then _ else S i) (λi C=>(Jf C).symm)]
   exact d
def QV (k0:Int)(t:Nat):qO:=⟨k0+2*t,k0+2*t+1⟩
theorem FZ (f:Option Addr)(n c base:Nat)(S:Nat->qO)(k0:Int)(w:World)(hn:n<=2097152)(k:0<=k0)(h1:k0<=1000000000000000)(z:w.ownsRow base 234 2 (f,n,c) n (zL S n)) :
  Calls prog 131 #[(f,n,c),k0] w λe w'=>e=.returned (int i64 (k0+2*n))/\w'.ownsRow base 234 2 (f,n,c) n (zL (QV k0) n)/\zl w w' (λb=>(Value.slice f n c).ownBlock=some b):=by
 go_enter func131,ntmps131;go_wp2;go_loopw [1,5] (λq i wr=>∃ (t:Nat),t<=n/\i=int i64 t/\q=int i64 (k0+2*t)/\wr.ownsRow base 234 2 (f,n,c) n ((List.range (n*2)).map (qK (λi=>if i<t then QV k0 i else S i)))/\zl w wr (λb=>(Value.slice f n c).ownBlock=some b)) (λ_ i _=>n - (intOf i).toNat)
 case atStart=>exact⟨0,Jq _,rfl,by simp,by simpa [zL] using z,zl.refl _ _⟩
 case round =>
  obtain⟨t,ht,rfl,rfl,d,r⟩:=hrel
  by_cases hlt:t<n
  ·obtain⟨g,rfl,v,x⟩:=qr d oM
   have l:=zs d (t*2) oM rfl;have s:=d.frozenAt (t*2);rw[Bf] at l;have m:=zs d (t*2+1) oM rfl;have u:=d.frozenAt (t*2+1);rw[Bg] at m;go_wp2;go_roundw
   case rel =>
    refine⟨t+1,by omega,by go_num,by go_num,qX (zI (zI d _ _) _ _) (λj hj=>?_),((r.set (a:=⟨g,t*2,_⟩) rfl _).set (a:=⟨g,_+1,_⟩) rfl _)⟩
    have p:∀ (S'),(∀ i,i≠t->S' i=(if i<t then QV k0 i else S i))->(S' t=QV k0 t)->qK S' j=qK (λi=>if i<t+1 then QV k0 i else S i) j:=by
     intro S' h1 h2;unfold qK;have:S' (j / 2)=(if j / 2<t+1 then QV k0 (j / 2) else S (j / 2)):=by
      by_cases e:j / 2=t
      ·rw[e,h2,Jf oM]
      ·rw[h1 _ e]
       by_cases e2:j / 2<t
       ·rw[Jf e2,Jf oM]
       ·rw[Je e2,Je oM]
     rw[this]
    rw[← p (λi=>if i=t then QV k0 t else _) (λi h=>Je h) (Jf rfl)]
    by_cases h1:j=t*2+1
    ·subst h1;rw[Jf rfl,Bg,Jf rfl];simp[QV];try omega
    rw[Je h1]
    by_cases k:j=t*2
    ·subst k;rw[Jf rfl,Bf,Jf rfl];simp[QV];try omega
    rw[Je k];have o:j / 2≠t:=oM;unfold qK;simp only[Je o]
   case measure=>simp[intOf];omega
  ·obtain rfl:t=n:=by omega
   go_wp2;go_ret;refine⟨rfl,?_,r⟩;rw[EY (S':=λi=>if i<t then _ else S i) (λi y=>(Jf y).symm)]
   exact d
theorem MH (a:Option Addr)(n c:Nat)(k0:Int)(w:World)(hn:n<=2097152)(h0:0<=k0)(h1:k0<=1000000000000000)(f:qx w a n (Qm k0)) :
  Calls prog 134 #[.slice a n c,int i64 k0] w λe w'=>e=.returned (int i64 (k0+4*n))/\w'=w:=by
 go_enter func134,ntmps134;go_wp2;go_loop [1,5] (λq i=>∃ t:Nat,t<=n/\i=int i64 t/\q=int i64 (k0+4*t)) (λ_ i=>n - (intOf i).toNat)
 case atStart=>exact⟨0,Jq _,rfl,by simp⟩
 case round =>
  obtain⟨t,ht,rfl,rfl⟩:=hrel
  by_cases hlt:t<n
  ·obtain⟨b,off,rfl,d,c1,c2,c3⟩:=f t hlt
   simp only[Qm] at d c1 c2 c3;go_wp2;go_round
   case rel=>exact⟨t+1,by omega,by go_num,by go_num⟩
   case measure=>simp[intOf];omega
  ·obtain rfl:t=n:=by omega
   go_wp2;go_ret;exact⟨rfl,rfl⟩
theorem MI (a:Option Addr)(n c:Nat)(k0:Int)(w:World)(hn:n<=2097152)(h0:0<=k0)(h1:k0<=1000000000000000)(f:qn w a n (Qn k0)) :
  Calls prog 135 #[.slice a n c,int i64 k0] w λe w'=>e=.returned (int i64 (k0+4*n))/\w'=w:=by
 go_enter func135,ntmps135;go_wp2;go_loop [1,5] (λq i=>∃ t:Nat,t<=n/\i=int i64 t/\q=int i64 (k0+4*t)) (λ_ i=>n - (intOf i).toNat)
 case atStart=>exact⟨0,Jq _,rfl,by simp⟩
 case round =>
  obtain⟨t,ht,rfl,rfl⟩:=hrel
  by_cases hlt:t<n
  ·obtain⟨b,off,rfl,d,c1,c2,c3⟩:=f t hlt
   simp only[Qn] at d c1 c2 c3;rw[show k0+4*(t:Int)+3=k0+4*(t:Int)+1+1+1 by omega] at c3
   go_wp2;go_round
   case rel=>exact⟨t+1,by omega,by go_num,by go_num⟩
   case measure=>simp[intOf];omega
  ·obtain rfl:t=n:=by omega
   go_wp2;go_ret;exact⟨rfl,rfl⟩
theorem MJ (a:Option Addr)(n c:Nat)(k0:Int)(w:World)(hn:n<=2097152)(h0:0<=k0)(h1:k0<=1000000000000000)(f:qC w a n (QV k0)) :
  Calls prog 136 #[.slice a n c,int i64 k0] w λe w'=>e=.returned (int i64 (k0+2*n))/\w'=w:=by
 go_enter func136,ntmps136;go_wp2;go_loop [1,5] (λq i=>∃ t:Nat,t<=n/\i=int i64 t/\q=int i64 (k0+2*t)) (λ_ i=>n - (intOf i).toNat)
 case atStart=>exact⟨0,Jq _,rfl,by simp⟩
 case round =>
  obtain⟨t,ht,rfl,rfl⟩:=hrel
  by_cases hlt:t<n
  ·obtain⟨b,off,rfl,d,c1⟩:=f t hlt
   simp only[QV] at d c1;go_wp2;go_round
   case rel=>exact⟨t+1,by omega,by go_num,by go_num⟩
   case measure=>simp[intOf];omega
  ·obtain rfl:t=n:=by omega
   go_wp2;go_ret;exact⟨rfl,rfl⟩
def GV (L:Nat->zw)(k:Nat)(x:zw)(j:Nat):zw:=if j=k then x else L j
theorem ZV (L:Nat->zw)(k:Nat)(x:zw):GV L k x k=x:=Jf rfl
theorem Q7 (L:Nat->zw)(k:Nat)(x:zw){j:Nat}(h:j≠k):GV L k x j=L j:=Je h
def kL (S:Nat->zw)(k0:Nat):Nat->Nat
 |0=>k0
 |i+1=>kL S k0 i+4*(S i).r+4*(S i).m+2*(S i).t
def mL (S:Nat->zw)(k0:Nat)(i:Nat):zw :=
 ⟨(S i).r,Qm ((kL S k0 i:Nat):Int),(S i).m,Qn ((kL S k0 i+4*(S i).r:Nat):Int),(S i).t,QV ((kL S k0 i+4*(S i).r+4*(S i).m:Nat):Int)⟩
def Tg (S:Nat->zw)(k0 t:Nat)(i:Nat):zw:=if i<t then mL S k0 i else S i
theorem FJ {S:Nat->zw}{i:Nat}(h:i<t):Tg S k0 t i=mL S k0 i:=Jf h
theorem Ko {S:Nat->zw}{i:Nat}(h:¬ i<t):Tg S k0 t i=S i:=Je h
theorem dh (S:Nat->zw)(k0 t:Nat):GV (Tg S k0 t) t (mL S k0 t)=Tg S k0 (t+1):=by
 funext i
 by_cases e:i=t
 ·subst e;rw[ZV,FJ (Nat.lt_succ_self _)]
 ·rw[Q7 _ _ _ e]
  by_cases h:i<t
  ·rw[FJ h,FJ oM]
  ·rw[Ko h,Ko oM]
theorem IV (L:Nat->zw)(k:Nat)(x y:zw):GV (GV L k x) k y=GV L k y:=by
 funext i
 by_cases e:i=k
 ·subst e;rw[ZV,ZV]
 ·rw[Q7 _ _ _ e,Q7 _ _ _ e,Q7 _ _ _ e]
theorem TA {S:Nat->zw}(h:Zy N S 1048576):∀ i,i<=N->kL S k0 i<=k0+i*10485760
 |0,_=>by unfold kL;omega
 |i+1,hi=>by
  have:kL S k0 i<=_:=TA h i oM;obtain⟨h1,h2,h3⟩:=h i oM;unfold kL
  omega
def nj (N:Nat)(A B C:Nat->Value)(b:Nat):Prop:=∃ i,i<N/\((A i).ownBlock=some b∨(B i).ownBlock=some b∨(C i).ownBlock=some b)
theorem di (z:Int)(v:Value)(n base k0:Nat)(S:Nat->ql)(w:World)(f:z=(k0:Int))(hn:n<=1048576)(h1:k0<=100000000000000)(a:w.ownsRow base 220 4 v n (zH S n)) :
  Calls prog 129 #[v,z] w λe w'=>e=.returned ((k0+4*n:Nat):Int)/\w'.ownsRow base 220 4 v n (zH (Qm (k0:Int)) n)/\zl w w' (λb=>v.ownBlock=some b):=by
 subst f;obtain⟨d,c,rfl,_⟩:=zn a;refine(FX d n c _ S k0 w oM oM oM a).mono ?_;rintro e w' ⟨rfl,h2,h3⟩;exact⟨by rw[show((k0+4*n:Nat):Int)=(k0:Int)+4*n by omega],h2,h3⟩
theorem dj (z:Int)(a:Option Addr)(n c k0:Nat)(w:World)(b:z=(k0:Int))(hn:n<=1048576)(h1:k0<=100000000000000)(h:qx w a n (Qm (k0:Int))) :
  Calls prog 134 #[(a,n,c),z] w λe w'=>e=.returned ((k0+4*n:Nat):Int)/\w'=w:=by
 subst b;rw[show((k0+4*n:Nat):Int)=(k0:Int)+4*n by omega]
 exact MH a n c k0 w oM oM oM h
theorem dm (z:Int)(v:Value)(n base k0:Nat)(S:Nat->zU)(w:World)(f:z=(k0:Int))(hn:n<=1048576)(h1:k0<=100000000000000)(a:w.ownsRow base 228 4 v n (zF S n)) :
  Calls prog 130 #[v,z] w λe w'=>e=.returned ((k0+4*n:Nat):Int)/\w'.ownsRow base 228 4 v n (zF (Qn (k0:Int)) n)/\zl w w' (λb=>v.ownBlock=some b):=by
 subst f;obtain⟨d,c,rfl,_⟩:=zn a;refine(FY d n c _ S k0 w oM oM oM a).mono ?_;rintro e w' ⟨rfl,h2,h3⟩;exact⟨by rw[show((k0+4*n:Nat):Int)=(k0:Int)+4*n by omega],h2,h3⟩
theorem dp (z:Int)(a:Option Addr)(n c k0:Nat)(w:World)(b:z=(k0:Int))(hn:n<=1048576)(h1:k0<=100000000000000)(h:qn w a n (Qn (k0:Int))) :
  Calls prog 135 #[(a,n,c),z] w λe w'=>e=.returned ((k0+4*n:Nat):Int)/\w'=w:=by
 subst b;rw[show((k0+4*n:Nat):Int)=(k0:Int)+4*n by omega]
 exact MI a n c k0 w oM oM oM h
theorem dt (z:Int)(v:Value)(n base k0:Nat)(S:Nat->qO)(w:World)(f:z=(k0:Int))(hn:n<=1048576)(h1:k0<=100000000000000)(a:w.ownsRow base 234 2 v n (zL S n)) :
  Calls prog 131 #[v,z] w λe w'=>e=.returned ((k0+2*n:Nat):Int)/\w'.ownsRow base 234 2 v n (zL (QV (k0:Int)) n)/\zl w w' (λb=>v.ownBlock=some b):=by
 subst f;obtain⟨d,c,rfl,_⟩:=zn a;refine(FZ d n c _ S k0 w oM oM oM a).mono ?_;rintro e w' ⟨rfl,h2,h3⟩;exact⟨by rw[show((k0+2*n:Nat):Int)=(k0:Int)+2*n by omega],h2,h3⟩
theorem du (z:Int)(a:Option Addr)(n c k0:Nat)(w:World)(b:z=(k0:Int))(hn:n<=1048576)(h1:k0<=100000000000000)(h:qC w a n (QV (k0:Int))) :
  Calls prog 136 #[(a,n,c),z] w λe w'=>e=.returned ((k0+2*n:Nat):Int)/\w'=w:=by
 subst b;rw[show((k0+2*n:Nat):Int)=(k0:Int)+2*n by omega]
 exact MJ a n c k0 w oM oM oM h
theorem qw.markStay {S:Nat->zw}{F:Nat->ql}(h:qw w base v N S A B C)(d:t<N)(c:zl w w' (λb=>(A t).ownBlock=some b))(f:w'.ownsRow base 220 4 (A t) (S t).r (zH F (S t).r)):qw w' base v N (GV S t { S t with K:=F }) A B C:=by
 refine⟨c.j1 h.row (λg h1 h2=>zE h.row (h.K t d) dC g h1 h2),λi a=>?_,λi a=>?_,λi a=>?_,h.Q⟩
 ·by_cases e:i=t
  ·subst e;rw[ZV];exact f
  ·rw[Q7 _ _ _ e];exact c.j1 (h.K i a) (λg h1 h2=>h.Q.1 i t a d e g h1 h2)
 ·have q:=c.j1 (h.I i a) (λg h1 h2=>zE (h.K t d) (h.I i a) dC g h2 h1)
  by_cases e:i=t
  ·subst e;rw[ZV];exact q
  ·rw[Q7 _ _ _ e];exact q
 ·have q:=c.j1 (h.L i a) (λg h1 h2=>zE (h.K t d) (h.L i a) dC g h2 h1)
  by_cases e:i=t
  ·subst e;rw[ZV];exact q
  ·rw[Q7 _ _ _ e];exact q
theorem qw.markRoom {S:Nat->zw}{F:Nat->zU}(h:qw w base v N S A B C)(d:t<N)(c:zl w w' (λb=>(B t).ownBlock=some b))(f:w'.ownsRow base 228 4 (B t) (S t).m (zF F (S t).m)):qw w' base v N (GV S t { S t with I:=F }) A B C:=by
 refine⟨c.j1 h.row (λg h1 h2=>zE h.row (h.I t d) dC g h1 h2),λi a=>?_,λi a=>?_,λi a=>?_,h.Q⟩
 ·have q:=c.j1 (h.K i a) (λg h1 h2=>zE (h.I t d) (h.K i a) dC g h2 h1)
  by_cases e:i=t
  ·subst e;rw[ZV];exact q
  ·rw[Q7 _ _ _ e];exact q
 ·by_cases e:i=t
  ·subst e;rw[ZV];exact f
  ·rw[Q7 _ _ _ e];exact c.j1 (h.I i a) (λg h1 h2=>h.Q.2.1 i t a d e g h1 h2)
 ·have q:=c.j1 (h.L i a) (λg h1 h2=>zE (h.I t d) (h.L i a) dC g h2 h1)
  by_cases e:i=t
  ·subst e;rw[ZV];exact q
  ·rw[Q7 _ _ _ e];exact q
theorem qw.markSeat {S:Nat->zw}{F:Nat->qO}(h:qw w base v N S A B C)(d:t<N)(c:zl w w' (λb=>(C t).ownBlock=some b))(f:w'.ownsRow base 234 2 (C t) (S t).t (zL F (S t).t)):qw w' base v N (GV S t { S t with L:=F }) A B C:=by
 refine⟨c.j1 h.row (λg h1 h2=>zE h.row (h.L t d) dC g h1 h2),λi a=>?_,λi a=>?_,λi a=>?_,h.Q⟩
 ·have q:=c.j1 (h.K i a) (λg h1 h2=>zE (h.L t d) (h.K i a) dC g h2 h1)
  by_cases e:i=t
  ·subst e;rw[ZV];exact q
  ·rw[Q7 _ _ _ e];exact q
 ·have q:=c.j1 (h.I i a) (λg h1 h2=>zE (h.L t d) (h.I i a) dC g h2 h1)
  by_cases e:i=t
  ·subst e;rw[ZV];exact q
  ·rw[Q7 _ _ _ e];exact q
 ·by_cases e:i=t
  ·subst e;rw[ZV];exact f
  ·rw[Q7 _ _ _ e];exact c.j1 (h.L i a) (λg h1 h2=>h.Q.2.2 i t a d e g h1 h2)
theorem Rl (J:Option Addr)(N c base k0:Nat)(S:Nat->zw)(A B C:Nat->Value)(w:World)(hN:N<=1000)(h1:k0<=10000000000)(Z:Zy N S 1048576)(Y:qw w base (J,N,c) N S A B C) :
  Calls prog 63 #[(J,N,c),(k0:Int)] w λe w'=>e=.returned ((kL S k0 N:Nat):Int)/\qw w' base (J,N,c) N (mL S k0) A B C/\zl w w' (nj N A B C):=by
 have U:=hI Z;have E:=hI Y;clear Z Y;go_enter func63,ntmps63;go_wp2;go_loopw [1,5] (λq i wr=>∃ (t k:Nat),t<=N/\i=int i64 t/\q=int i64 k/\k=kL S k0 t/\qw wr base (J,N,c) N (Tg S k0 t) A B C/\zl w wr (nj N A B C)) (λ_ i _=>N - (intOf i).toNat)
 case atStart =>
  refine⟨0,k0,Jq _,rfl,rfl,rfl,?_,zl.refl _ _⟩;have e:Tg S k0 0=S:=by funext i;exact Ko oM
  rw[e];exact E
 case round =>
  clear E;obtain⟨t,k,ht,rfl,rfl,F,o,R⟩:=hrel;have d:=hI F;have kb:k<=30000000000:=by have:=TA (k0:=k0) U t ht;omega
  clear F
  by_cases hlt:t<N
  ·have x:Tg S k0 t t=S t:=Ko oM
   obtain⟨n1,n2,n3⟩:=U t hlt;obtain⟨g,rfl,a0,a4⟩:=qr o.row oM;have T:=o.K t hlt;have y:=o.I t hlt;have z:=o.L t hlt;rw[x] at T y z;obtain⟨a1,d1,V,_⟩:=zn T;obtain⟨a2,d2,W,_⟩:=zn y;obtain⟨a3,d3,X,_⟩:=zn z;have cell:∀ {w'} {S'},qw w' base (.slice _ N c) N S' A B C->∀ j,j<3->w'.cell? ⟨g,t*3+j,_⟩=_:=λh j hj=>by rw[zs h.row _ oM rfl,zO 3 _ t j hj]
   have n:Hid (∀ {w'} {S'},qw w' _ _ N S' A B C->_):=cell;have a:Hid (_/\_/\_):=⟨V,W,X⟩;have D:=hI o;have O:=hI R;have P:=hI x;clear cell T y z V W X o R x;have q0:wr.cell? ⟨g,t*3,_⟩=_:=(n D 0 dC).trans (congrArg _ a.1);go_wp2_with fail;have m:=D.K t hlt;rw[P.out,a.1] at m;refine(di _ _ _ _ _ _ _ (by rw[d.out]) n1 (by have:=d.out;omega) m).mono ?_
   rintro e w1 ⟨rfl,G,s⟩;have f:=hI (D.markStay hlt (s.mono (λb e=>by rw[a.1];exact e)) (by rw[P.out,a.1];exact G))
   have K:Hid (zl wr w1 (nj N A B C)):=s.mono (λb e=>⟨t,hlt,.inl (by rw[a.1];exact e)⟩)
   clear q0 m G s;rw[P.out] at f;have q1:=(n f 1 dC).trans (congrArg _ a.2.1);go_wp2_with fail;have m:=f.I t hlt;rw[ZV,a.2.1] at m;refine(dm _ _ _ _ (_+4*_) _ _ (by first|rfl|omega) n2 (by have:=d.out;omega) m).mono ?_
   rintro e w2 ⟨rfl,H,u⟩;have l:=hI (f.markRoom hlt (u.mono (λb e=>by rw[a.2.1];exact e)) (by rw[ZV,a.2.1];exact H))
   have L:Hid (zl w1 w2 (nj N A B C)):=u.mono (λb e=>⟨t,hlt,.inr (.inl (by rw[a.2.1];exact e))⟩)
   clear q1 m H u;rw[ZV,IV] at l;have q2:=(n l 2 dC).trans (congrArg _ a.2.2);go_wp2_with fail;have m:=l.L t hlt;rw[ZV,a.2.2] at m;refine(dt _ _ _ _ (_+4*_+4*_) _ _ (by first|rfl|omega) n3 (by have:=d.out;omega) m).mono ?_
   rintro e w3 ⟨rfl,I,v⟩;have r:=hI (l.markSeat hlt (v.mono (λb e=>by rw[a.2.2];exact e)) (by rw[ZV,a.2.2];exact I))
   have M:Hid (zl w2 w3 (nj N A B C)):=v.mono (λb e=>⟨t,hlt,.inr (.inr (by rw[a.2.2];exact e))⟩)
   clear q2 m I v;rw[ZV,IV] at r;have Q:=hI (dh S k0 t ▸ r);clear f l r n;go_wp2;go_roundw
   case rel =>
    refine⟨_,_,by omega,by go_num,?_,rfl,Q,O.trans (K.trans (L.trans M))⟩
    rfl
   case measure=>simp[intOf];omega
  ·obtain rfl:t=N:=by omega
   have D:=hI o;clear o;go_wp2;go_ret;refine⟨by rw[d.out];rfl,?_,R⟩
   have h:=D;refine⟨h.row,λi p=>?_,λi p=>?_,λi p=>?_,h.Q⟩
   ·have:=h.K i p;rw[FJ p] at this;exact this
   ·have:=h.I i p;rw[FJ p] at this;exact this
   ·have:=h.L i p;rw[FJ p] at this;exact this
theorem Rm (v:Option Addr)(N c k0:Nat)(S:Nat->zw)(w:World)(hN:N<=1000)(h1:k0<=10000000000)(C:Zy N S 1048576)(D:ZA w v N (mL S k0)) :
  Calls prog 67 #[(v,N,c),(k0:Int)] w λe w'=>e=.returned ((kL S k0 N:Nat):Int)/\w'=w:=by
 have u:=hI C;have F:=hI D;clear C D;go_enter func67,ntmps67;go_wp2;go_loopw [1,5] (λq i wr=>∃ (t k:Nat),t<=N/\i=int i64 t/\q=int i64 k/\k=kL S k0 t/\w=wr) (λ_ i _=>N - (intOf i).toNat)
 case atStart=>exact⟨0,k0,Jq _,rfl,rfl,rfl,rfl⟩
 case round =>
  obtain⟨t,k,G,rfl,rfl,j,H⟩:=hrel;subst H;have d:=hI j;have kb:k<=30000000000:=by have:=TA (k0:=k0) u t G;omega
  clear j
  by_cases hlt:t<N
  ·obtain⟨E,B,hI⟩:=F
   obtain⟨b,off,rfl,l⟩:=B t hlt;obtain⟨p,x,r,y,s,z,A,h1,_,h2,_,h3,_⟩:=hI t hlt;obtain⟨I,J,K⟩:=u t hlt;have f:=l 0 dC;have g:=l 1 dC;have h:=l 2 dC;rw[A] at f g h;have q0:w.cell? ⟨b,off+_,_⟩=some (p,(S t).r,x):=f;have q1:w.cell? _=some (r,(S t).m,y):=g;have q2:w.cell? _=some (s,(S t).t,z):=h;have m:Hid (qx w p (S t).r (Qm _)):=h1;have n:Hid (qn w r (S t).m (Qn _)):=h2;have o:Hid (qC w s (S t).t (QV _)):=h3;clear B hI l f g h A h1 h2 h3;have x0:decide (((kL S k0 t+4*(S t).r:Nat):Int)<0)=false:=dF;have x1:decide (((kL S k0 t+4*(S t).r+4*(S t).m:Nat):Int)<0)=false:=dF;have x2:decide (((kL S k0 t+4*(S t).r+4*(S t).m+2*(S t).t:Nat):Int)<0)=false:=dF;have i1:(t:Int)<(N:Int):=oM;go_wp2_with (first
    |(go_at_call 134;refine bM (dj _ p _ x _ _ (by rw[d.out]) I (by have:=d.out;omega) m.out) λw' a=>?_;have a:=a.symm;subst a)
    |(go_at_call 135;refine bM (dp _ r _ y _ _ (by first | rfl | omega) J (by have:=d.out;omega) n.out) λw' a=>?_;have a:=a.symm;subst a)
    |(go_at_call 136;refine bM (du _ s _ z _ _ (by first | rfl | omega) K (by have:=d.out;omega) o.out) λw' a=>?_;have a:=a.symm;subst a))
   go_roundw
   case rel =>
    refine⟨t+1,kL S k0 (t+1),by omega,by go_num,?_⟩
    first|exact⟨rfl,rfl,trivial⟩|exact⟨rfl,trivial⟩|exact⟨rfl,rfl,rfl⟩
   case measure=>simp[intOf];omega
  ·obtain rfl:t=N:=by omega
   go_wp2;go_ret;exact⟨by rw[d.out];rfl,by first|rfl|trivial⟩
theorem pm:(Rows.fnExactDoOpRow.inPlace == Tryz.prog.inPlace 3)=true:=kR
theorem pn:(Rows.fnExactDoOpRow.unfollowed == Tryz.prog.unfollowed 3)=true:=kR
theorem po:(Rows.fnExactDoOpRow.recurses == Tryz.prog.recurses 3)=true:=kR
theorem pq:(Rows.fnExactDoOpRow.named == Tryz.prog.varsNamed 3)=true:=kR
theorem pt:joinedFacts prog 3 Tryz.f3 Rows.fnExactDoOpSpec Rows.fnExactDoOpRow=true:=by
 unfold joinedFacts;rw[pm,pn,po,pq]
 kernel_rfl
section
open Go.ChangeShapes Go.WideShapes Go.ChangeAt Go.RowKit Go.Deep
section
variable {H : Type} {enc : TypeId × Value -> H} {P : Program} {w : World} {base : Nat} {spare : Nat -> Bool} {held : Bool}
end
end
end Go.Proofs.YtmdnjgihooflfaaGreatDoor
