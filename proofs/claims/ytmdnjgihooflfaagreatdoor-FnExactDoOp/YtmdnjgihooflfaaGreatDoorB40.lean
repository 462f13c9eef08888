/-
  OWN TEXT: ViewD, ViewP, ViewSail, ViewSails, ViewSl, ViewStay, ViewRoom.
-/
import Derived.Test.YtmdnjgihooflfaaGreatDoorRows
import Derived.Test.YtmdnjgihooflfaaGreatDoorB39
namespace Go.Proofs.YtmdnjgihooflfaaGreatDoor
open Go.RowKit
open Go.Value (int)
open Go.IntKind (i64)
open Tryz
set_option maxHeartbeats 64000000
set_option maxRecDepth 100000
section
open Go.ChangeShapes Go.WideShapes Go.ChangeAt Go.RowKit Go.Deep Go.Joins
theorem zor {H:Type}{P:Program}{e:Nat}{x:Nat}:∀ {l:List (DataW H)}{d:DataW H},d ∈ l->x ∈ DataW.weights P e d->x ∈ DataW.weightsAll P e l:=by
 intro l
 induction l with
 | nil=>intro d h;cases h
 | cons a l ih =>
  intro d h b;rw[DataW.weightsAll,List.mem_append]
  rcases List.mem_cons.1 h with rfl|h
  ·exact .inl b
  ·exact .inr (ih h b)
section
variable {H : Type} {enc : TypeId × Value -> H} {P : Program} {w : World} {base : Nat} {held : Bool}
theorem zoi {t e fuel sz bytes:Nat}{v:Value}{x:DataW H × List MemPlace}(E:P.underlying t=some (.slice e))(K:P.cellsOf e=sz)(h0:0<sz)(B:P.bytesOf e=bytes)
  (h:DataW.trod enc P w base (λ_=>true) held fuel t [v]=some x) (M:∀ y ∈ DataW.weights P t x.1,y<=reachBytes) :
  ∃ ao n d C,v=.slice ao n d/\QT w ao n sz C/\n<=d/\(ao=none->n=0/\d=0)/\d*bytes<=reachBytes /\
   ∀ k,k<n->(C k).length=sz/\∃ u z,DataW.trod enc P w base (λ_=>true) held u e (C k)=some z/\∀ y ∈ DataW.weights P e z.1,y<=reachBytes:=by
 rcases open_slice E h with⟨l,G⟩|⟨a,n,d,m,u,D,Pl,l,_,L,hm,s,G,f⟩
 ·simp at l
  subst l;exact⟨_,0,0,λ_=>[],rfl,λk c=>absurd c (Nat.not_lt_zero _),Jr _,λ_=>⟨rfl,rfl⟩,by omega,λk c=>absurd c (Nat.not_lt_zero _)⟩
 ·simp at l
  subst l;rw[Jf rfl] at s;subst s;have q:=by
   have:=M ((n+(m - n))*P.bytesOf e) (by rw[G];simp[DataW.weights,E])
   rw[B,show n+(m - n)=m by omega] at this
   exact this
  by_cases hn0:n=0
  ·subst hn0
   exact⟨_,0,m,λ_=>[],rfl,λk c=>absurd c (Nat.not_lt_zero _),L,(λh=>by cases h),q,λk c=>absurd c (Nat.not_lt_zero _)⟩
  have p:a.spot=none:=by
   obtain⟨cs,i,_⟩:=f 0 (by omega)
   rw[K] at i;obtain⟨_,r,o⟩:=World.cells?_some i;have J:=o 0 (by omega)
   rw[List.getElem?_eq_getElem (by omega)] at J
   have:=World.cell?_spot J
   simpa [Addr.add] using this
  obtain⟨b,off,spot⟩:=a;simp only at p;subst p;have I:∀ k,k<n->∃ cs,(cs.length=sz/\∀ j,j<sz->w.cell? (b,off+k*sz+j)=some (cs.getD j (.bool false)))/\∃ u z,DataW.trod enc P w base (λ_=>true) held u e cs=some z/\∀ y ∈ DataW.weights P e z.1,y<=reachBytes:=by
   intro k c;obtain⟨cs,i,F⟩:=f k (by omega)
   rw[K] at i;obtain⟨_,r,o⟩:=World.cells?_some i;refine⟨cs,⟨r,λj N=>?_⟩,_,_,F,λy O=>?_⟩
   ·have g:=o j N
    rw[List.getElem?_eq_getElem (by omega)] at g
    rw[List.getD_eq_getElem?_getD,List.getElem?_eq_getElem (by omega)]
    simp only[Addr.add_lit] at g;exact g
   ·refine M y ?_
    have h1:D k ∈ _:=List.mem_map.2 ⟨k,List.mem_range.2 c,rfl⟩;have h2:=zor h1 O;rw[G];simp[DataW.weights,E,h2]
  obtain⟨C,A⟩:=choose_lt I;exact⟨_,n,m,C,rfl,λk c=>⟨b,off,rfl,(A k c).1.2⟩,L,(λh=>by cases h),q,λk c=>⟨(A k c).1.1,(A k c).2⟩⟩
end
end
section
open Go.ChangeShapes Go.WideShapes Go.ChangeAt Go.RowKit Go.Deep Go.Joins
section
variable {H : Type} {enc : TypeId × Value -> H} {P : Program} {w : World} {base : Nat} {spare : Nat -> Bool} {held : Bool}
theorem zou {t e fuel B bytes:Nat}{C E:Field}{v:Value}{x:DataW H × List MemPlace}(S:P.underlying t=some (.slice e))(U:P.underlying e=some (.struct #[C,E]))(O:P.cellsOf e=2)
  (t0:C.type=B) (t1:E.type=B) (Y:C.offset=0) (Z:E.offset=1)
  (Q:P.underlying B=some (int i64)) (J:P.cellsOf B=1) (F:P.bytesOf e=bytes)
  (h:DataW.trod enc P w base (λ_=>true) held fuel t [v]=some x) (W:∀ y ∈ DataW.weights P t x.1,y<=reachBytes) :
  ∃ ao d l,v=.slice ao l.n d/\zG w ao l/\l.n<=d/\(ao=none->l.n=0/\d=0)/\d*bytes<=reachBytes:=by
 rcases open_slice S h with⟨j,T⟩|⟨a,n,d,m,fl,D,Pl,j,_,R,hm,A,T,g⟩
 ·simp at j
  subst j;exact⟨_,0,⟨0,λ_=>0,λ_=>0⟩,rfl,λk u=>absurd u (Nat.not_lt_zero _),Jr _,λ_=>⟨rfl,rfl⟩,by omega⟩
 ·simp at j
  subst j;rw[Jf rfl] at A;subst A;have r:=by
   have:=W ((n+(m - n))*P.bytesOf e) (by rw[T];simp[DataW.weights,S])
   rw[F,show n+(m - n)=m by omega] at this
   exact this
  by_cases hn0:n=0
  ·subst hn0
   exact⟨_,m,⟨0,λ_=>0,λ_=>0⟩,rfl,λk u=>absurd u (Nat.not_lt_zero _),R,(λh=>by cases h),r⟩
  have o:a.spot=none:=by
   obtain⟨cs,i,_⟩:=g 0 (by omega)
   rw[O] at i;obtain⟨_,s,c⟩:=World.cells?_some i;have z:=c 0 (by omega)
   rw[List.getElem?_eq_getElem (by omega)] at z
   have:=World.cell?_spot z
   simpa [Addr.add] using this
  obtain⟨b,off,spot⟩:=a;simp only at o;subst o;have I:∀ k,k<n->∃ (y:Int × Int),w.cell? (b,off+k*2)=some (int i64 y.1)/\w.cell? (b,off+k*2+1)=some (int i64 y.2):=by
   intro k u;obtain⟨cs,i,G⟩:=g k (by omega)
   rw[O] at i;obtain⟨_,s,c⟩:=World.cells?_some i;obtain⟨y0,y1,n',_,_,N,h1⟩:=trod_struct2 U G;rw[t0,Y,J] at N;rw[t1,Z,J] at h1
   match cs,s with
   | [p,q],_ =>
    obtain⟨X,K,_,_⟩:=DataW.trod_int Q N;obtain⟨i1,L,_,_⟩:=DataW.trod_int Q h1;simp at K L;subst K L;have z:=c 0 (by omega)
    have M:=c 1 (by omega)
    simp only[List.getElem?_cons_zero,List.getElem?_cons_succ,Addr.add_lit,Nat.add_zero] at z M;exact⟨(X,i1),z,M⟩
  obtain⟨f,V⟩:=choose_lt I;exact⟨_,m,⟨n,λk=>_,λk=>_⟩,rfl,λk u=>⟨b,off,rfl,V k u⟩,R,(λh=>by cases h),r⟩
end
theorem Tryz.own:ownKnob Tryz.prog.godebug=none:=by kernel_rfl
theorem Tryz.laidOut:laidOutB prog=true:=by kernel_rfl
theorem Tryz.cellsInt:Tryz.prog.cellsOf 3=1:=by kernel_rfl
theorem Tryz.cellsBool:Tryz.prog.cellsOf 4=1:=by kernel_rfl
end
section
open Go.ChangeShapes Go.WideShapes Go.ChangeAt Go.RowKit Go.Deep Go.Joins
section
variable {H : Type} {enc : TypeId × Value -> H} {P : Program} {w : World} {base : Nat} {spare : Nat -> Bool} {held : Bool}
theorem zoA {t:TypeId}{b c d f3 e f g i:Field}{fuel:Nat}{cs:List Value}{x:DataW H × List MemPlace}(l:P.underlying t=some (.struct #[b,c,d,f3,e,f,g,i]))(h:DataW.trod enc P w base spare held fuel t cs=some x) :
  ∃ y0 y1 y2 y3 y4 y5 y6 y7 n,x.1=.agg [y0.1,y1.1,y2.1,y3.1,y4.1,y5.1,y6.1,y7.1]/\cs.length=P.cellsOf t/\DataW.trod enc P w base spare held n b.type ((cs.drop b.offset).take (P.cellsOf b.type))=some y0 /\
   DataW.trod enc P w base spare held n c.type ((cs.drop c.offset).take (P.cellsOf c.type))=some y1/\DataW.trod enc P w base spare held n d.type ((cs.drop d.offset).take (P.cellsOf d.type))=some y2 /\
   DataW.trod enc P w base spare held n f3.type ((cs.drop f3.offset).take (P.cellsOf f3.type))=some y3/\DataW.trod enc P w base spare held n e.type ((cs.drop e.offset).take (P.cellsOf e.type))=some y4 /\
   DataW.trod enc P w base spare held n f.type ((cs.drop f.offset).take (P.cellsOf f.type))=some y5/\DataW.trod enc P w base spare held n g.type ((cs.drop g.offset).take (P.cellsOf g.type))=some y6 /\
   DataW.trod enc P w base spare held n i.type ((cs.drop i.offset).take (P.cellsOf i.type))=some y7:=by
 obtain⟨m,n,_,rfl,k,j,a⟩:=DataW.trod_struct l h
 match m,j with
 | [y0,y1,y2,y3,y4,y5,y6,y7],_=>exact⟨y0,y1,y2,y3,y4,y5,y6,y7,n,by simp,k,by simpa using a 0 b rfl,by simpa using a 1 c rfl,by simpa using a 2 d rfl,by simpa using a 3 f3 rfl,by simpa using a 4 e rfl,by simpa using a 5 f rfl,by simpa using a 6 g rfl,by simpa using a 7 i rfl⟩
theorem list8 {α:Type}{cs:List α}(h:cs.length=8):∃ c0 c1 c2 c3 c4 c5 c6 c7,cs=[c0,c1,c2,c3,c4,c5,c6,c7]:=by
 match cs,h with
 | [c0,c1,c2,c3,c4,c5,c6,c7],_=>exact⟨c0,c1,c2,c3,c4,c5,c6,c7,rfl⟩
end
theorem Tryz.cellsSailing:Tryz.prog.cellsOf 126=8:=by kernel_rfl
theorem Tryz.cellsLane:Tryz.prog.cellsOf 308=2:=by kernel_rfl
theorem Tryz.cellsLaneS:Tryz.prog.cellsOf 123=1:=by kernel_rfl
theorem Tryz.cellsCabin:Tryz.prog.cellsOf 310=2:=by kernel_rfl
theorem Tryz.cellsCabinS:Tryz.prog.cellsOf 124=1:=by kernel_rfl
theorem Tryz.cellsStr:Tryz.prog.cellsOf 9=1:=by kernel_rfl
theorem Tryz.bytesLane:Tryz.prog.bytesOf 308=16:=by kernel_rfl
theorem Tryz.bytesCabin:Tryz.prog.bytesOf 310=16:=by kernel_rfl
/-- The cells of a sailing that came in. -/
theorem view_sail {H:Type}{g:TypeId × Value->H}{W:World}{base fuel:Nat}{b:Bool}{cs:List Value}{x:DataW H × List MemPlace}
  (h:DataW.trod g prog W base (λ_=>true) b fuel 126 cs=some x) (c:∀ y ∈ DataW.weights prog 126 x.1,y<=reachBytes) :
  ∃ (s:Zj) (la:Option Addr) (f:Nat) (ca:Option Addr) (e:Nat),cs=[int i64 s.id,.string s.fr,.string s.dst,int i64 s.dep,int i64 s.arr,.slice la s.la.n f,.slice ca s.ca.n e,int i64 s.most] /\
   zG W la s.la/\zG W ca s.ca/\qj la s.la.n f/\qj ca s.ca.n e/\zoy s 1000000000000000:=by
 obtain⟨y0,y1,y2,y3,y4,y5,y6,y7,n,d,z,r,h1,h2,h3,t,u,v,w⟩:=zoA underlying126 h;rw[d] at c;rw[Tryz.cellsSailing] at z;obtain⟨c0,c1,c2,c3,c4,c5,c6,c7,rfl⟩:=list8 z;simp only[Tryz.cellsInt,Tryz.cellsStr,Tryz.cellsLaneS,Tryz.cellsCabinS,List.drop,List.take] at r h1 h2 h3 t u v w;obtain⟨L,k,_,_⟩:=DataW.trod_int underlying3 r;obtain⟨i,l,R,_⟩:=DataW.trod_string underlying9 h1;obtain⟨j,m,S,_⟩:=DataW.trod_string underlying9 h2;obtain⟨M,o,_,_⟩:=DataW.trod_int underlying3 h3;obtain⟨N,p,_,_⟩:=DataW.trod_int underlying3 t;obtain⟨O,q,_,_⟩:=DataW.trod_int underlying3 w;obtain⟨la,f,A,rfl,C,D,E,F⟩:=zou underlying123 underlying308 Tryz.cellsLane rfl rfl rfl rfl underlying3 Tryz.cellsInt Tryz.bytesLane u (λx d=>c x (by simp[DataW.weights,DataW.weightsEach,underlying126,d]))
 obtain⟨ca,e,B,rfl,G,I,J,K⟩:=zou underlying124 underlying310 Tryz.cellsCabin rfl rfl rfl rfl underlying3 Tryz.cellsInt Tryz.bytesCabin v (λx d=>c x (by simp[DataW.weights,DataW.weightsEach,underlying126,d]))
 have P:=c i.size (by rw[R];simp[DataW.weights,DataW.weightsEach,underlying126])
 have Q:=c j.size (by rw[S];simp[DataW.weights,DataW.weightsEach,underlying126])
 simp at k l m o p q;subst k l m o p q;unfold reachBytes at F K P Q;exact⟨⟨L,i,j,M,N,A,B,O⟩,la,f,ca,e,rfl,C,G,⟨D,by omega,E⟩,⟨I,by omega,J⟩,⟨by show i.size<=_;omega,by show j.size<=_;omega,by show A.n<=_;omega,by show B.n<=_;omega⟩⟩
end
section
open Go.ChangeShapes Go.WideShapes Go.ChangeAt Go.RowKit Go.Deep Go.Joins
theorem Tryz.bytesSailing:Tryz.prog.bytesOf 126=112:=by kernel_rfl
end
section
open Go.ChangeShapes Go.WideShapes Go.ChangeAt Go.RowKit Go.Deep Go.Joins
theorem zoK {H:Type}{l:TypeId × Value->H}{W:World}{base fuel:Nat}{j:Bool}{v:Value}{x:DataW H × List MemPlace}
  (h:DataW.trod l prog W base (λ_=>true) j fuel 22 [v]=some x) (D:∀ y ∈ DataW.weights prog 22 x.1,y<=reachBytes) :
  ∃ i n c S,v=.slice i n c/\qB W i n S/\qj i n c/\QL n S 1000000000000000/\n<=1000000000000000:=by
 obtain⟨i,n,c,C,rfl,hr,w,A,q,u⟩:=zoi underlying22 Tryz.cellsSailing (by omega) Tryz.bytesSailing h D
 have o:∀ k,k<n->∃ s,zoy s 1000000000000000/\∃ (la:_) (g:Nat) (ca:_) (f:Nat),C k=[int i64 s.id,.string s.fr,.string s.dst,int i64 s.dep,int i64 s.arr,.slice la s.la.n g,.slice ca s.ca.n f,int i64 s.most] /\
   zG W la s.la/\zG W ca s.ca/\qj la s.la.n g/\qj ca s.ca.n f:=by
  intro k a;obtain⟨_,fl,z,B,E⟩:=u k a;obtain⟨s,la,g,ca,f,e,h1,h2,h3,m,t⟩:=view_sail B E;exact⟨s,t,la,g,ca,f,e,h1,h2,h3,m⟩
 obtain⟨S,p⟩:=choose_lt o;refine⟨i,n,c,S,rfl,λk a=>?_,⟨w,by unfold reachBytes at q;omega,A⟩,λk a=>(p k a).1,by unfold reachBytes at q;omega⟩
 obtain⟨b,off,e,d⟩:=hr k a;obtain⟨_,la,g,ca,f,r,h1,h2,h3,m⟩:=p k a;rw[r] at d;exact⟨b,off,la,g,ca,f,e,d 0 (by omega),d 1 (by omega),d 2 (by omega),d 3 (by omega),d 4 (by omega),d 5 (by omega),d 6 (by omega),d 7 (by omega),h1,h2,h3,m⟩
end
section
open Go.ChangeShapes Go.WideShapes Go.ChangeAt Go.RowKit Go.Deep Go.Joins
theorem Tryz.cellsStay:Tryz.prog.cellsOf 312=4:=by kernel_rfl
theorem Tryz.bytesStay:Tryz.prog.bytesOf 312=32:=by kernel_rfl
theorem zon {H:Type}{c:TypeId × Value->H}{P:Program}{w:World}{base:Nat}{a:Nat->Bool}{b:Bool}{t:TypeId}{d e f f3:Field}{fuel:Nat}{cs:List Value}{x:DataW H × List MemPlace}(j:P.underlying t=some (.struct #[d,e,f,f3]))(h:DataW.trod c P w base a b fuel t cs=some x) :
  ∃ y0 y1 y2 y3 n,DataW.trod c P w base a b n d.type ((cs.drop d.offset).take (P.cellsOf d.type))=some y0/\DataW.trod c P w base a b n e.type ((cs.drop e.offset).take (P.cellsOf e.type))=some y1/\DataW.trod c P w base a b n f.type ((cs.drop f.offset).take (P.cellsOf f.type))=some y2/\DataW.trod c P w base a b n f3.type ((cs.drop f3.offset).take (P.cellsOf f3.type))=some y3:=by
 obtain⟨k,n,_,rfl,hl,g,i⟩:=DataW.trod_struct j h
 match k,g with
 | [y0,y1,y2,y3],_=>exact⟨y0,y1,y2,y3,n,by simpa using i 0 d rfl,by simpa using i 1 e rfl,by simpa using i 2 f rfl,by simpa using i 3 f3 rfl⟩
end
section
open Go.ChangeShapes Go.WideShapes Go.ChangeAt Go.RowKit Go.Deep Go.Joins
theorem Tryz.cellsRoom:Tryz.prog.cellsOf 314=4:=by kernel_rfl
theorem Tryz.bytesRoom:Tryz.prog.bytesOf 314=32:=by kernel_rfl
theorem zoo {H:Type}{c:TypeId × Value->H}{P:Program}{w:World}{base:Nat}{a:Nat->Bool}{b:Bool}{t:TypeId}{d e f f3:Field}{fuel:Nat}{cs:List Value}{x:DataW H × List MemPlace}(j:P.underlying t=some (.struct #[d,e,f,f3]))(h:DataW.trod c P w base a b fuel t cs=some x) :
  ∃ y0 y1 y2 y3 n,DataW.trod c P w base a b n d.type ((cs.drop d.offset).take (P.cellsOf d.type))=some y0/\DataW.trod c P w base a b n e.type ((cs.drop e.offset).take (P.cellsOf e.type))=some y1/\DataW.trod c P w base a b n f.type ((cs.drop f.offset).take (P.cellsOf f.type))=some y2/\DataW.trod c P w base a b n f3.type ((cs.drop f3.offset).take (P.cellsOf f3.type))=some y3:=by
 obtain⟨k,n,_,rfl,hl,g,i⟩:=DataW.trod_struct j h
 match k,g with
 | [y0,y1,y2,y3],_=>exact⟨y0,y1,y2,y3,n,by simpa using i 0 d rfl,by simpa using i 1 e rfl,by simpa using i 2 f rfl,by simpa using i 3 f3 rfl⟩
end
end Go.Proofs.YtmdnjgihooflfaaGreatDoor
