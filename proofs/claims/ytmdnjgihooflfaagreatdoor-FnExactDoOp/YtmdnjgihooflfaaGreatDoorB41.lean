/-
  OWN TEXT: ViewSeat, ViewFlat, VLoad, ViewInts, ViewI, ViewParty, VBooking.
-/
import Derived.Test.YtmdnjgihooflfaaGreatDoorB40
namespace Go.Proofs.YtmdnjgihooflfaaGreatDoor
open Go.RowKit
open Go.Value (int)
open Go.IntKind (i64)
open Tryz
set_option maxHeartbeats 64000000
set_option maxRecDepth 100000
section
open Go.ChangeShapes Go.WideShapes Go.ChangeAt Go.RowKit Go.Deep Go.Joins
theorem Tryz.cellsSeat:Tryz.prog.cellsOf 316=2:=by kernel_rfl
theorem Tryz.bytesSeat:Tryz.prog.bytesOf 316=16:=by kernel_rfl
theorem zop {H:Type}{c:TypeId × Value->H}{P:Program}{w:World}{base:Nat}{a:Nat->Bool}{b:Bool}{t:TypeId}{d e:Field}{fuel:Nat}{cs:List Value}{x:DataW H × List MemPlace}(i:P.underlying t=some (.struct #[d,e]))(h:DataW.trod c P w base a b fuel t cs=some x) :
  ∃ y0 y1 n,DataW.trod c P w base a b n d.type ((cs.drop d.offset).take (P.cellsOf d.type))=some y0/\DataW.trod c P w base a b n e.type ((cs.drop e.offset).take (P.cellsOf e.type))=some y1:=by
 obtain⟨j,n,_,rfl,hl,f,g⟩:=DataW.trod_struct i h
 match j,f with
 | [y0,y1],_=>exact⟨y0,y1,n,by simpa using g 0 d rfl,by simpa using g 1 e rfl⟩
end
section
variable{H:Type}{W:World}{base fuel:Nat}{v:Value}
open Go.ChangeShapes Go.WideShapes Go.ChangeAt Go.RowKit Go.Deep Go.Joins
theorem zoL {j:TypeId × Value->H}{g:Bool}{x:DataW H × List MemPlace}
  (h:DataW.trod j prog W base (λ_=>true) g fuel 128 [v]=some x) (F:∀ y ∈ DataW.weights prog 128 x.1,y<=reachBytes) :
  ∃ d n a S,v=.slice d n a/\qw W d n S/\qj d n a/\n<=1000000000000000:=by
 obtain⟨d,n,a,C,rfl,hr,B,D,u,A⟩:=zoi underlying128 Tryz.cellsStay (by omega) Tryz.bytesStay h F
 have o:∀ k,k<n->∃ y:Zp,C k=[int i64 y.who,int i64 y.ln,int i64 y.len,int i64 y.hei]:=by
  intro k c;obtain⟨i,fl,z,E,_⟩:=A k c;obtain⟨y0,y1,y2,y3,m,t,h1,h2,h3⟩:=zon underlying312 E;simp only[Tryz.cellsInt] at t h1 h2 h3;generalize C k=l at *
  match l,i with
  | [p0,p1,p2,p3],_ =>
   obtain⟨G,p,_,_⟩:=DataW.trod_int underlying3 t;obtain⟨i1,q,_,_⟩:=DataW.trod_int underlying3 h1;obtain⟨i2,r,_,_⟩:=DataW.trod_int underlying3 h2;obtain⟨I,s,_,_⟩:=DataW.trod_int underlying3 h3;simp at p q r s;subst p q r s;exact⟨⟨G,i1,i2,I⟩,rfl⟩
 obtain⟨S,w⟩:=choose_lt o;refine⟨d,n,a,S,rfl,λk c=>?_,⟨B,by unfold reachBytes at u;omega,D⟩,by unfold reachBytes at u;omega⟩
 obtain⟨b,off,e,f⟩:=hr k c;rw[w k c] at f;exact⟨b,off,e,f 0 (by omega),f 1 (by omega),f 2 (by omega),f 3 (by omega)⟩
theorem zoM {j:TypeId × Value->H}{g:Bool}{x:DataW H × List MemPlace}
  (h:DataW.trod j prog W base (λ_=>true) g fuel 129 [v]=some x) (F:∀ y ∈ DataW.weights prog 129 x.1,y<=reachBytes) :
  ∃ d n a S,v=.slice d n a/\qp W d n S/\qj d n a/\n<=1000000000000000:=by
 obtain⟨d,n,a,C,rfl,hr,B,D,u,A⟩:=zoi underlying129 Tryz.cellsRoom (by omega) Tryz.bytesRoom h F
 have o:∀ k,k<n->∃ y:qN,C k=[int i64 y.who,int i64 y.cab,int i64 y.many,.bool y.all]:=by
  intro k c;obtain⟨i,fl,z,E,_⟩:=A k c;obtain⟨y0,y1,y2,y3,m,t,h1,h2,h3⟩:=zoo underlying314 E;simp only[Tryz.cellsInt,Tryz.cellsBool] at t h1 h2 h3;generalize C k=l at *
  match l,i with
  | [p0,p1,p2,p3],_ =>
   obtain⟨G,p,_,_⟩:=DataW.trod_int underlying3 t;obtain⟨i1,q,_,_⟩:=DataW.trod_int underlying3 h1;obtain⟨i2,r,_,_⟩:=DataW.trod_int underlying3 h2;obtain⟨I,s,_⟩:=DataW.trod_bool underlying4 h3;simp at p q r s;subst p q r s;exact⟨⟨G,i1,i2,I⟩,rfl⟩
 obtain⟨S,w⟩:=choose_lt o;refine⟨d,n,a,S,rfl,λk c=>?_,⟨B,by unfold reachBytes at u;omega,D⟩,by unfold reachBytes at u;omega⟩
 obtain⟨b,off,e,f⟩:=hr k c;rw[w k c] at f;exact⟨b,off,e,f 0 (by omega),f 1 (by omega),f 2 (by omega),f 3 (by omega)⟩
theorem zoN {i:TypeId × Value->H}{f:Bool}{x:DataW H × List MemPlace}
  (h:DataW.trod i prog W base (λ_=>true) f fuel 130 [v]=some x) (D:∀ y ∈ DataW.weights prog 130 x.1,y<=reachBytes) :
  ∃ d n a S,v=.slice d n a/\qE W d n S/\qj d n a/\n<=1000000000000000:=by
 obtain⟨d,n,a,C,rfl,hr,w,A,s,u⟩:=zoi underlying130 Tryz.cellsSeat (by omega) Tryz.bytesSeat h D
 have o:∀ k,k<n->∃ y:Qe,C k=[int i64 y.who,int i64 y.many]:=by
  intro k c;obtain⟨g,fl,z,B,_⟩:=u k c;obtain⟨y0,y1,m,r,h1⟩:=zop underlying316 B;simp only[Tryz.cellsInt] at r h1;generalize C k=l at *
  match l,g with
  | [p0,p1],_ =>
   obtain⟨E,p,_,_⟩:=DataW.trod_int underlying3 r;obtain⟨i1,q,_,_⟩:=DataW.trod_int underlying3 h1;simp at p q;subst p q;exact⟨⟨E,i1⟩,rfl⟩
 obtain⟨S,t⟩:=choose_lt o;refine⟨d,n,a,S,rfl,λk c=>?_,⟨w,by unfold reachBytes at s;omega,A⟩,by unfold reachBytes at s;omega⟩
 obtain⟨b,off,e,j⟩:=hr k c;rw[t k c] at j;exact⟨b,off,e,j 0 (by omega),j 1 (by omega)⟩
end
section
variable{H:Type}{P:Program}{w W:World}{base fuel:Nat}{b:Bool}{cs:List Value}{v:Value}
open Go.ChangeShapes Go.WideShapes Go.ChangeAt Go.RowKit Go.Deep Go.Joins
theorem Tryz.cellsLoad:Tryz.prog.cellsOf 132=3:=by kernel_rfl
theorem Tryz.cellsRoomSLoad:Tryz.prog.cellsOf 129=1:=by kernel_rfl
theorem Tryz.cellsSeatSLoad:Tryz.prog.cellsOf 130=1:=by kernel_rfl
theorem Tryz.cellsStaySLoad:Tryz.prog.cellsOf 128=1:=by kernel_rfl
theorem Tryz.bytesLoad:Tryz.prog.bytesOf 132=72:=by kernel_rfl
theorem zoq {c:TypeId × Value->H}{a:Nat->Bool}{t:TypeId}{d e f:Field}{x:DataW H × List MemPlace}(k:P.underlying t=some (.struct #[d,e,f]))(h:DataW.trod c P w base a b fuel t cs=some x) :
  ∃ y0 y1 y2 n,x.1=.agg [y0.1,y1.1,y2.1]/\cs.length=P.cellsOf t/\DataW.trod c P w base a b n d.type ((cs.drop d.offset).take (P.cellsOf d.type))=some y0/\DataW.trod c P w base a b n e.type ((cs.drop e.offset).take (P.cellsOf e.type))=some y1/\DataW.trod c P w base a b n f.type ((cs.drop f.offset).take (P.cellsOf f.type))=some y2:=by
 obtain⟨l,n,_,rfl,j,g,i⟩:=DataW.trod_struct k h
 match l,g with
 | [y0,y1,y2],_=>exact⟨y0,y1,y2,n,by simp,j,by simpa using i 0 d rfl,by simpa using i 1 e rfl,by simpa using i 2 f rfl⟩
theorem list_load {α:Type}{cs:List α}(h:cs.length=3):∃ c0 c1 c2,cs=[c0,c1,c2]:=by
 match cs,h with
 | [c0,c1,c2],_=>exact⟨c0,c1,c2,rfl⟩
/-- The cells of a sailing's load that came in. -/
theorem view_load {l:TypeId × Value->H}{c:Bool}{x:DataW H × List MemPlace}
  (h:DataW.trod l prog W base (λ_=>true) c fuel 132 cs=some x) (d:∀ y ∈ DataW.weights prog 132 x.1,y<=reachBytes) :
  ∃ s:zY,zY.Is W cs s/\zY.Short s 1000000000000000:=by
 obtain⟨y0,y1,y2,n,b,G,F,h1,h2⟩:=zoq underlying132 h;rw[b] at d;rw[Tryz.cellsLoad] at G;obtain⟨c0,c1,c2,rfl⟩:=list_load G;simp only[Tryz.cellsRoomSLoad,Tryz.cellsSeatSLoad,Tryz.cellsStaySLoad,List.drop,List.take] at F h1 h2;obtain⟨g,w,k,t,I,p,E,B⟩:=zoL F (λx b=>d x (by simp[DataW.weights,DataW.weightsEach,underlying132,b]))
 obtain⟨e,u,i,q,J,m,C,z⟩:=zoM h1 (λx b=>d x (by simp[DataW.weights,DataW.weightsEach,underlying132,b]))
 obtain⟨f,v,j,r,K,o,D,A⟩:=zoN h2 (λx b=>d x (by simp[DataW.weights,DataW.weightsEach,underlying132,b]))
 subst I J K;exact⟨⟨w,t,u,q,v,r⟩,⟨g,k,e,i,f,j,rfl,p,E,m,C,o,D⟩,⟨(show _ from B),(show _ from z),(show _ from A)⟩⟩
instance:Inhabited zY:=⟨⟨0,λ_=>Zp.zero,0,λ_=>qN.zero,0,λ_=>Qe.zero⟩⟩
theorem zoO {e:TypeId × Value->H}{d:Bool}{x:DataW H × List MemPlace}
  (h:DataW.trod e prog W base (λ_=>true) d fuel 23 [v]=some x) (p:∀ y ∈ DataW.weights prog 23 x.1,y<=reachBytes) :
  ∃ c n b S,v=.slice c n b/\ZG W c n S/\qj c n b/\ZA n S 1000000000000000/\n<=1000000000000000:=by
 obtain⟨c,n,b,C,rfl,hr,l,m,i,j⟩:=zoi underlying23 Tryz.cellsLoad (by omega) Tryz.bytesLoad h p
 have f:∀ k,k<n->∃ s,zY.Is W (C k) s/\zY.Short s 1000000000000000:=by
  intro k a;obtain⟨_,fl,z,o,q⟩:=j k a;exact view_load o q
 obtain⟨S,g⟩:=choose_lt f;exact⟨c,n,b,S,rfl,⟨C,hr,λk a=>(g k a).1⟩,⟨l,by unfold reachBytes at i;omega,m⟩,λk a=>(g k a).2,by unfold reachBytes at i;omega⟩
end
section
open Go.ChangeShapes Go.WideShapes Go.ChangeAt Go.RowKit Go.Deep Go.Joins
theorem Tryz.bytesInt:Tryz.prog.bytesOf 3=8:=by kernel_rfl
end
section
open Go.ChangeShapes Go.WideShapes Go.ChangeAt Go.RowKit Go.Deep Go.Joins
theorem zov {H:Type}{j:TypeId × Value->H}{W:World}{base fuel:Nat}{f:Bool}{v:Value}{x:DataW H × List MemPlace}
  (h:DataW.trod j prog W base (λ_=>true) f fuel 27 [v]=some x) (w:∀ y ∈ DataW.weights prog 27 x.1,y<=reachBytes) :
  ∃ d n a S,v=.slice d n a/\zT W d n S/\qj d n a/\n<=1000000000000000:=by
 obtain⟨d,n,a,C,rfl,hr,s,t,m,r⟩:=zoi underlying27 Tryz.cellsInt (by omega) Tryz.bytesInt h w
 have l:∀ k,k<n->∃ y:Int,C k=[int i64 y]:=by
  intro k c;obtain⟨o,fl,z,u,_⟩:=r k c;obtain⟨i,e,_,_⟩:=DataW.trod_int underlying3 u;exact⟨i,e⟩
 obtain⟨S,p⟩:=choose_lt l;refine⟨d,n,a,S,rfl,λk c=>?_,⟨s,by unfold reachBytes at m;omega,t⟩,by unfold reachBytes at m;omega⟩
 obtain⟨b,off,e,q⟩:=hr k c;have g:=q 0 (by omega)
 rw[p k c,Nat.mul_one] at g;exact⟨b,off,e,g⟩
end
section
open Go.ChangeShapes Go.WideShapes Go.ChangeAt Go.RowKit Go.Deep Go.Joins
theorem Tryz.cellsParty:Tryz.prog.cellsOf 29=6:=by kernel_rfl
theorem zom {H:Type}{c:TypeId × Value->H}{P:Program}{w:World}{base:Nat}{a:Nat->Bool}{b:Bool}{t:TypeId}{e f g f3 i j:Field}{fuel:Nat}{cs:List Value}{x:DataW H × List MemPlace}(m:P.underlying t=some (.struct #[e,f,g,f3,i,j]))(h:DataW.trod c P w base a b fuel t cs=some x) :
  ∃ y0 y1 y2 y3 y4 y5 n,cs.length=P.cellsOf t/\DataW.trod c P w base a b n e.type ((cs.drop e.offset).take (P.cellsOf e.type))=some y0/\DataW.trod c P w base a b n f.type ((cs.drop f.offset).take (P.cellsOf f.type))=some y1/\DataW.trod c P w base a b n g.type ((cs.drop g.offset).take (P.cellsOf g.type))=some y2/\DataW.trod c P w base a b n f3.type ((cs.drop f3.offset).take (P.cellsOf f3.type))=some y3/\DataW.trod c P w base a b n i.type ((cs.drop i.offset).take (P.cellsOf i.type))=some y4/\DataW.trod c P w base a b n j.type ((cs.drop j.offset).take (P.cellsOf j.type))=some y5:=by
 obtain⟨o,n,_,rfl,l,k,d⟩:=DataW.trod_struct m h
 match o,k with
 | [y0,y1,y2,y3,y4,y5],_=>exact⟨y0,y1,y2,y3,y4,y5,n,l,by simpa using d 0 e rfl,by simpa using d 1 f rfl,by simpa using d 2 g rfl,by simpa using d 3 f3 rfl,by simpa using d 4 i rfl,by simpa using d 5 j rfl⟩
end
section
variable{H:Type}{P:Program}{w W:World}{base fuel:Nat}{b:Bool}{cs:List Value}{v:Value}
open Go.ChangeShapes Go.WideShapes Go.ChangeAt Go.RowKit Go.Deep Go.Joins
theorem Tryz.cellsBooking:Tryz.prog.cellsOf 135=13:=by kernel_rfl
theorem Tryz.cellsIntSBooking:Tryz.prog.cellsOf 27=1:=by kernel_rfl
theorem Tryz.bytesBooking:Tryz.prog.bytesOf 135=128:=by kernel_rfl
theorem Tryz.cellsStrBooking:Tryz.prog.cellsOf 9=1:=by kernel_rfl
theorem zok {c:TypeId × Value->H}{a:Nat->Bool}{t:TypeId}{e f g f3 i j k l:Field}{x:DataW H × List MemPlace}(p:P.underlying t=some (.struct #[e,f,g,f3,i,j,k,l]))(h:DataW.trod c P w base a b fuel t cs=some x) :
  ∃ y0 y1 y2 y3 y4 y5 y6 y7 n,x.1=.agg [y0.1,y1.1,y2.1,y3.1,y4.1,y5.1,y6.1,y7.1]/\cs.length=P.cellsOf t/\DataW.trod c P w base a b n e.type ((cs.drop e.offset).take (P.cellsOf e.type))=some y0/\DataW.trod c P w base a b n f.type ((cs.drop f.offset).take (P.cellsOf f.type))=some y1/\DataW.trod c P w base a b n g.type ((cs.drop g.offset).take (P.cellsOf g.type))=some y2/\DataW.trod c P w base a b n f3.type ((cs.drop f3.offset).take (P.cellsOf f3.type))=some y3/\DataW.trod c P w base a b n i.type ((cs.drop i.offset).take (P.cellsOf i.type))=some y4/\DataW.trod c P w base a b n j.type ((cs.drop j.offset).take (P.cellsOf j.type))=some y5/\DataW.trod c P w base a b n k.type ((cs.drop k.offset).take (P.cellsOf k.type))=some y6/\DataW.trod c P w base a b n l.type ((cs.drop l.offset).take (P.cellsOf l.type))=some y7:=by
 obtain⟨q,n,_,rfl,o,m,d⟩:=DataW.trod_struct p h
 match q,m with
 | [y0,y1,y2,y3,y4,y5,y6,y7],_=>exact⟨y0,y1,y2,y3,y4,y5,y6,y7,n,by simp,o,by simpa using d 0 e rfl,by simpa using d 1 f rfl,by simpa using d 2 g rfl,by simpa using d 3 f3 rfl,by simpa using d 4 i rfl,by simpa using d 5 j rfl,by simpa using d 6 k rfl,by simpa using d 7 l rfl⟩
theorem zoB {α:Type}{cs:List α}(h:cs.length=13):∃ c0 c1 c2 c3 c4 c5 c6 c7 c8 c9 c10 c11 c12,cs=[c0,c1,c2,c3,c4,c5,c6,c7,c8,c9,c10,c11,c12]:=by
 match cs,h with
 | [c0,c1,c2,c3,c4,c5,c6,c7,c8,c9,c10,c11,c12],_=>exact⟨c0,c1,c2,c3,c4,c5,c6,c7,c8,c9,c10,c11,c12,rfl⟩
/-- The cells of a booking that came in. -/
theorem zoC {k:TypeId × Value->H}{e:Bool}{x:DataW H × List MemPlace}
  (h:DataW.trod k prog W base (λ_=>true) e fuel 135 cs=some x) (o:∀ y ∈ DataW.weights prog 135 x.1,y<=reachBytes) :
  ∃ s:ql,ql.Is W cs s/\ql.Short s 1000000000000000:=by
 obtain⟨y0,y1,y2,y3,y4,y5,y6,y7,n,p,N,I,h1,h2,h3,J,K,L,M⟩:=zok underlying135 h;rw[p] at o;rw[Tryz.cellsBooking] at N;obtain⟨c0,c1,c2,c3,c4,c5,c6,c7,c8,c9,T,U,V,rfl⟩:=zoB N;simp only[Tryz.cellsInt,Tryz.cellsStrBooking,Tryz.cellsIntSBooking,Tryz.cellsParty,List.drop,List.take] at I h1 h2 h3 J K L M;obtain⟨v0,w,_,_⟩:=DataW.trod_int underlying3 I;obtain⟨v1,z,_,_⟩:=DataW.trod_int underlying3 h1;obtain⟨v2,A,x2,_⟩:=DataW.trod_string underlying9 h2;have w2:=o v2.size (by rw[x2];simp[DataW.weights,DataW.weightsEach,underlying135])
 unfold reachBytes at w2;obtain⟨i,f,j,q,X,l,r,g⟩:=zov h3 (λx p=>o x (by simp[DataW.weights,DataW.weightsEach,underlying135,p]))
 obtain⟨p0,p1,p2,p3,p4,p5,m,_,k0,O,P,Q,R,S⟩:=zom underlying29 J;simp only[Tryz.cellsInt,Tryz.cellsBool,List.drop,List.take] at k0 O P Q R S;obtain⟨v4,B,_,_⟩:=DataW.trod_int underlying3 k0;obtain⟨v5,C,_,_⟩:=DataW.trod_int underlying3 O;obtain⟨v6,D,_,_⟩:=DataW.trod_int underlying3 P;obtain⟨v7,E,_,_⟩:=DataW.trod_int underlying3 Q;obtain⟨Y,F,_⟩:=DataW.trod_bool underlying4 R;obtain⟨Z,G,_,_⟩:=DataW.trod_int underlying3 S;obtain⟨t,b,_,_⟩:=DataW.trod_int underlying3 K;obtain⟨u,c,_,_⟩:=DataW.trod_int underlying3 L;obtain⟨v,d,_,_⟩:=DataW.trod_int underlying3 M;simp at w z A B C D E F G b c d;subst w z A B C D E F G b c d;subst X;exact⟨⟨v0,v1,v2,f,q,v4,v5,v6,v7,Y,Z,t,u,v⟩,⟨i,j,rfl,l,r⟩,⟨(show v2.size<=_ by omega),(show f<=_ from g)⟩⟩
instance:Inhabited ql:=⟨⟨0,0,⟨#[]⟩,0,λ_=>0,0,0,0,0,false,0,0,0,0⟩⟩
theorem zow {e:TypeId × Value->H}{d:Bool}{x:DataW H × List MemPlace}
  (h:DataW.trod e prog W base (λ_=>true) d fuel 24 [v]=some x) (p:∀ y ∈ DataW.weights prog 24 x.1,y<=reachBytes) :
  ∃ c n b S,v=.slice c n b/\qO W c n S/\qj c n b/\Z2 n S 1000000000000000/\n<=1000000000000000:=by
 obtain⟨c,n,b,C,rfl,hr,l,m,i,j⟩:=zoi underlying24 Tryz.cellsBooking (by omega) Tryz.bytesBooking h p
 have f:∀ k,k<n->∃ s,ql.Is W (C k) s/\ql.Short s 1000000000000000:=by
  intro k a;obtain⟨_,fl,z,o,q⟩:=j k a;exact zoC o q
 obtain⟨S,g⟩:=choose_lt f;exact⟨c,n,b,S,rfl,⟨C,hr,λk a=>(g k a).1⟩,⟨l,by unfold reachBytes at i;omega,m⟩,λk a=>(g k a).2,by unfold reachBytes at i;omega⟩
end
end Go.Proofs.YtmdnjgihooflfaaGreatDoor
