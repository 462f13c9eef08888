/-
  OWN TEXT: LaidF, LaidB, LaidE, LawDopR, JoinD, Views, ViewD.
-/
import Derived.ProofKit
import Derived.OpenShut
import Derived.LaidMore
import Derived.WalkSmall
import Derived.Lib.LaidTab
import Derived.Deep.DeepHandedRow
import Derived.Test.YtmdnjgihooflfaaGreatDoorKitCo
import Derived.Stop.LaidErr
import Derived.LaidHandle
import Derived.Test.YtmdnjgihooflfaaGreatDoorRows
import Derived.RowKit
import Derived.JoinedOf
import Derived.ChangeOld
import Derived.SizedLaws
import Derived.Deep.Slices
import Derived.Deep.Strs
import Derived.Lib.SmallJoins
import Derived.Test.YtmdnjgihooflfaaGreatDoorB38
namespace Go.Proofs.YtmdnjgihooflfaaGreatDoor
open Go.RowKit
open Go.Value (int)
open Go.IntKind (i64)
open Tryz
set_option maxHeartbeats 64000000
set_option maxRecDepth 100000
section
variable{H:Type}{W:World}{base fuel:Nat}
open Go.ChangeShapes Go.WideShapes Go.ChangeAt Go.RowKit
theorem Tryz.gForms: Tryz.prog.globalNamed "loop.example/g00084/impl.opForms" = some 9 := by kernel_rfl
theorem Tryz.gFormsType:(Tryz.prog.globals[9]?).map (·.type)=some 264:=by kernel_rfl
theorem Tryz.cellsF10:Tryz.prog.cellsOf 264=70:=by kernel_rfl
theorem Tryz.cellsForm:Tryz.prog.cellsOf 263=7:=by kernel_rfl
theorem Tryz.cellsInt1:Tryz.prog.cellsOf 3=1:=by kernel_rfl
theorem Tryz.cellsBool1:Tryz.prog.cellsOf 4=1:=by kernel_rfl
/-- A form read as its seven fields is those seven cells. -/
theorem zoj {e:TypeId × Value->H}{b:Nat->Bool}{c:Bool}{m:Nat}{l:List Value}{x:DataW H × List MemPlace}{f g:Bool}{i:Int}{j k o p:Bool}
  (h:DataW.trod e prog W base b c m 263 l=some x) (I:x.1=.agg [.lit (.bool f),.lit (.bool g),.lit (.int .i64 i),.lit (.bool j),.lit (.bool k),.lit (.bool o),.lit (.bool p)]) :
  l=[.bool f,.bool g,int i64 i,.bool j,.bool k,.bool o,.bool p]:=by
 obtain⟨Q,n,_,rfl,G,d,a⟩:=DataW.trod_struct underlying263 h;rw[Tryz.cellsForm] at G
 match Q,d,l,G with
 | [y0,y1,y2,y3,y4,y5,y6],_,[c0,c1,c2,c3,c4,c5,c6],_ =>
  have y:=a 0 _ rfl;have z:=a 1 _ rfl;have B:=a 2 _ rfl;have C:=a 3 _ rfl;have D:=a 4 _ rfl;have E:=a 5 _ rfl;have F:=a 6 _ rfl;simp[Tryz.cellsInt1,Tryz.cellsBool1] at y z B C D E F;obtain⟨k0,q,J⟩:=DataW.trod_bool underlying4 y;obtain⟨k1,r,K⟩:=DataW.trod_bool underlying4 z;obtain⟨k2,s,L,_⟩:=DataW.trod_int underlying3 B;obtain⟨k3,t,M⟩:=DataW.trod_bool underlying4 C;obtain⟨k4,u,N⟩:=DataW.trod_bool underlying4 D;obtain⟨k5,v,O⟩:=DataW.trod_bool underlying4 E;obtain⟨k6,w,P⟩:=DataW.trod_bool underlying4 F;simp[J,K,L,M,N,O,P] at I;simp at q r s t u v w;obtain⟨rfl,rfl,rfl,rfl,rfl,rfl,rfl⟩:=I;rw[q,r,s,t,u,v,w]
theorem row_cell {l:List Value}{k j:Nat}(a:j<7)(r:List Value)(h:(l.drop (k*7)).take 7=r):l[k*7+j]?=r[j]?:=by
 rw[← h,List.getElem?_take,Jf a,List.getElem?_drop]
theorem forms_of {i:TypeId × Value->H}{d:Nat->Bool}{e:Bool}{p:List MemPlace}{cs:Array Value}
  (hv : W.var? Tryz.prog "loop.example/g00084/impl.opForms" = some cs)
  (o:DataW.trod i prog W base d e fuel 264 cs.toList=some (Rows.laid_loop_example_g00084_impl_opForms,p)):Zm W:=by
 obtain⟨D,m,_,g,f,s,b⟩:=DataW.trod_array underlying264 o;rw[Tryz.cellsF10] at f;rw[Tryz.cellsForm] at b;have cell:=World.var?_cell Tryz.gForms hv;obtain⟨l⟩:=cs;simp only[Prod.mk.injEq] at g;have g:=g.1
 match D,s with
 | [x0,x1,x2,x3,x4,x5,x6,x7,x8,x9],_ =>
  simp[Rows.laid_loop_example_g00084_impl_opForms] at g;obtain⟨t,u,v,w,x,y,z,A,B,C⟩:=g;intro k hk;have c:∀ r,_->∀ j,_->W.cell? _=r[j]?:=λr h j q=>by
   have:=cell (k*7+j);simp at this;rw[this];exact row_cell q r h
  have n:k=0∨k=1∨k=2∨k=3∨k=4∨k=5∨k=6∨k=7∨k=8∨k=9:=by omega
  rcases n with rfl|rfl|rfl|rfl|rfl|rfl|rfl|rfl|rfl|rfl
  ·have hr:=zoj (b 0 (by decide)) t.symm
   have a:=c _ hr;exact⟨a 0 (by decide),a 1 (by decide),a 2 (by decide),a 3 (by decide),a 4 (by decide),a 5 (by decide),a 6 (by decide)⟩
  ·have hr:=zoj (b 1 (by decide)) u.symm
   have a:=c _ hr;exact⟨a 0 (by decide),a 1 (by decide),a 2 (by decide),a 3 (by decide),a 4 (by decide),a 5 (by decide),a 6 (by decide)⟩
  ·have hr:=zoj (b 2 (by decide)) v.symm
   have a:=c _ hr;exact⟨a 0 (by decide),a 1 (by decide),a 2 (by decide),a 3 (by decide),a 4 (by decide),a 5 (by decide),a 6 (by decide)⟩
  ·have hr:=zoj (b 3 (by decide)) w.symm
   have a:=c _ hr;exact⟨a 0 (by decide),a 1 (by decide),a 2 (by decide),a 3 (by decide),a 4 (by decide),a 5 (by decide),a 6 (by decide)⟩
  ·have hr:=zoj (b 4 (by decide)) x.symm
   have a:=c _ hr;exact⟨a 0 (by decide),a 1 (by decide),a 2 (by decide),a 3 (by decide),a 4 (by decide),a 5 (by decide),a 6 (by decide)⟩
  ·have hr:=zoj (b 5 (by decide)) y.symm
   have a:=c _ hr;exact⟨a 0 (by decide),a 1 (by decide),a 2 (by decide),a 3 (by decide),a 4 (by decide),a 5 (by decide),a 6 (by decide)⟩
  ·have hr:=zoj (b 6 (by decide)) z.symm
   have a:=c _ hr;exact⟨a 0 (by decide),a 1 (by decide),a 2 (by decide),a 3 (by decide),a 4 (by decide),a 5 (by decide),a 6 (by decide)⟩
  ·have hr:=zoj (b 7 (by decide)) A.symm
   have a:=c _ hr;exact⟨a 0 (by decide),a 1 (by decide),a 2 (by decide),a 3 (by decide),a 4 (by decide),a 5 (by decide),a 6 (by decide)⟩
  ·have hr:=zoj (b 8 (by decide)) B.symm
   have a:=c _ hr;exact⟨a 0 (by decide),a 1 (by decide),a 2 (by decide),a 3 (by decide),a 4 (by decide),a 5 (by decide),a 6 (by decide)⟩
  ·have hr:=zoj (b 9 (by decide)) C.symm
   have a:=c _ hr;exact⟨a 0 (by decide),a 1 (by decide),a 2 (by decide),a 3 (by decide),a 4 (by decide),a 5 (by decide),a 6 (by decide)⟩
end
section
variable{H:Type}{W:World}{base fuel:Nat}
open Go.ChangeShapes Go.WideShapes Go.ChangeAt Go.RowKit
theorem Tryz.gBands: Tryz.prog.globalNamed "loop.example/g00084/impl.carBands" = some 11 := by kernel_rfl
theorem Tryz.gBandsType:(Tryz.prog.globals[11]?).map (·.type)=some 390:=by kernel_rfl
theorem Tryz.gFares: Tryz.prog.globalNamed "loop.example/g00084/impl.berthFares" = some 10 := by kernel_rfl
theorem Tryz.gFaresType:(Tryz.prog.globals[10]?).map (·.type)=some 386:=by kernel_rfl
theorem Tryz.cellsB3:Tryz.prog.cellsOf 390=6:=by kernel_rfl
theorem Tryz.cellsBand:Tryz.prog.cellsOf 389=2:=by kernel_rfl
theorem Tryz.cellsI3:Tryz.prog.cellsOf 386=3:=by kernel_rfl
theorem Tryz.cellsI1:Tryz.prog.cellsOf 3=1:=by kernel_rfl
/-- A band read as its two numbers is those two cells. -/
theorem zoD {e:TypeId × Value->H}{a:Nat->Bool}{b:Bool}{m:Nat}{c d:Value}{x:DataW H × List MemPlace}{i j:Int}
  (h:DataW.trod e prog W base a b m 389 [c,d]=some x) (f:x.1=.agg [.lit (.int .i64 i),.lit (.int .i64 j)]):c=.int .i64 i/\d=.int .i64 j:=by
 obtain⟨y0,y1,n,rfl,hl,l,h1⟩:=trod_struct2 underlying389 h;simp only[Tryz.cellsI1] at l h1;obtain⟨k0,g,o,_⟩:=DataW.trod_int underlying3 l;obtain⟨k1,k,p,_⟩:=DataW.trod_int underlying3 h1;simp at g k;rw[o,p] at f;simp at f;obtain⟨rfl,rfl⟩:=f;exact⟨g,k⟩
theorem bands_of {f:TypeId × Value->H}{d:Nat->Bool}{e:Bool}{p:List MemPlace}{cs:Array Value}
  (hv : W.var? Tryz.prog "loop.example/g00084/impl.carBands" = some cs)
  (h:DataW.trod f prog W base d e fuel 390 cs.toList=some (Rows.laid_loop_example_g00084_impl_carBands,p)):Zq W:=by
 obtain⟨j,m,_,c,b,i,a⟩:=DataW.trod_array underlying390 h;rw[Tryz.cellsB3] at b;rw[Tryz.cellsBand] at a;have cell:=World.var?_cell Tryz.gBands hv;obtain⟨l⟩:=cs;simp only[Prod.mk.injEq] at c;have c:=c.1
 match j,i,l,b with
 | [x0,x1,x2],_,[c0,c1,c2,c3,c4,c5],_ =>
  have g:=a 0 (by decide)
  have h1:=a 1 (by decide)
  have h2:=a 2 (by decide)
  simp at g h1 h2;simp[Rows.laid_loop_example_g00084_impl_carBands] at c;obtain⟨rfl,rfl⟩:=zoD g c.1.symm;obtain⟨rfl,rfl⟩:=zoD h1 c.2.1.symm;obtain⟨rfl,rfl⟩:=zoD h2 c.2.2.symm;exact⟨by simpa using cell 0,by simpa using cell 1,by simpa using cell 2,by simpa using cell 3,by simpa using cell 4,by simpa using cell 5⟩
theorem fares_of {f:TypeId × Value->H}{c:Nat->Bool}{d:Bool}{p:List MemPlace}{cs:Array Value}
  (hv : W.var? Tryz.prog "loop.example/g00084/impl.berthFares" = some cs)
  (q:DataW.trod f prog W base c d fuel 386 cs.toList=some (Rows.laid_loop_example_g00084_impl_berthFares,p)):Zu W:=by
 obtain⟨s,m,_,e,b,r,a⟩:=DataW.trod_array underlying386 q;rw[Tryz.cellsI3] at b;rw[Tryz.cellsI1] at a;have cell:=World.var?_cell Tryz.gFares hv;obtain⟨l⟩:=cs;simp only[Prod.mk.injEq] at e;have e:=e.1
 match s,r,l,b with
 | [x0,x1,x2],_,[c0,c1,c2],_ =>
  have j:=a 0 (by decide)
  have h1:=a 1 (by decide)
  have h2:=a 2 (by decide)
  simp at j h1 h2;obtain⟨k0,g,k,_⟩:=DataW.trod_int underlying3 j;obtain⟨k1,h,n,_⟩:=DataW.trod_int underlying3 h1;obtain⟨k2,i,o,_⟩:=DataW.trod_int underlying3 h2;simp[Rows.laid_loop_example_g00084_impl_berthFares,k,n,o] at e;simp at g h i;obtain⟨rfl,rfl,rfl⟩:=e;subst g h i;exact⟨by simpa using cell 0,by simpa using cell 1,by simpa using cell 2⟩
end
section
variable{P:Program}{W:World}
open Go.ChangeShapes Go.WideShapes Go.ChangeAt Go.RowKit
theorem Tryz.gE1: Tryz.prog.globalNamed "loop.example/g00084/impl.errForm" = some 1 := by kernel_rfl
theorem Tryz.tE1:(Tryz.prog.globals[1]?).map (·.type)=some 92:=by kernel_rfl
theorem Tryz.gE2: Tryz.prog.globalNamed "loop.example/g00084/impl.errRoute" = some 2 := by kernel_rfl
theorem Tryz.tE2:(Tryz.prog.globals[2]?).map (·.type)=some 92:=by kernel_rfl
theorem Tryz.gE3: Tryz.prog.globalNamed "loop.example/g00084/impl.errNone" = some 3 := by kernel_rfl
theorem Tryz.tE3:(Tryz.prog.globals[3]?).map (·.type)=some 92:=by kernel_rfl
theorem Tryz.gE4: Tryz.prog.globalNamed "loop.example/g00084/impl.errState" = some 4 := by kernel_rfl
theorem Tryz.tE4:(Tryz.prog.globals[4]?).map (·.type)=some 92:=by kernel_rfl
theorem Tryz.gE5: Tryz.prog.globalNamed "loop.example/g00084/impl.errDeck" = some 5 := by kernel_rfl
theorem Tryz.tE5:(Tryz.prog.globals[5]?).map (·.type)=some 92:=by kernel_rfl
theorem Tryz.gE6: Tryz.prog.globalNamed "loop.example/g00084/impl.errCabin" = some 6 := by kernel_rfl
theorem Tryz.tE6:(Tryz.prog.globals[6]?).map (·.type)=some 92:=by kernel_rfl
theorem Tryz.gE7: Tryz.prog.globalNamed "loop.example/g00084/impl.errPeople" = some 7 := by kernel_rfl
theorem Tryz.tE7:(Tryz.prog.globals[7]?).map (·.type)=some 92:=by kernel_rfl
theorem Tryz.gE8: Tryz.prog.globalNamed "loop.example/g00084/impl.errFull" = some 8 := by kernel_rfl
theorem Tryz.tE8:(Tryz.prog.globals[8]?).map (·.type)=some 92:=by kernel_rfl
theorem errStar: "*" ++ "errors.errorString" = "*errors.errorString" := by decide
theorem Tryz.errRow (u : TypeId) (h : Tryz.prog.typeName? 3 u = some "*errors.errorString") : u = 391 :=
 typeName_ptr_named (nm := "errors.errorString") (by rw [errStar]; kernel_rfl) (by kernel_rfl) (by decide) u (by rw [errStar]; exact h)
theorem Tryz.errCells:Tryz.prog.cellsOf 413=1:=by kernel_rfl
theorem Tryz.strCells:Tryz.prog.cellsOf 9=1:=by kernel_rfl
def txOf:DataW Unit->List UInt8
 | .iface _ (.ptr (.agg [.lit (.string s)]))=>s
 | _=>[]
def errD (k:Nat):DataW Unit:=match k with
 | 1=>Rows.laid_loop_example_g00084_impl_errForm
 | 2=>Rows.laid_loop_example_g00084_impl_errRoute
 | 3=>Rows.laid_loop_example_g00084_impl_errNone
 | 4=>Rows.laid_loop_example_g00084_impl_errState
 | 5=>Rows.laid_loop_example_g00084_impl_errDeck
 | 6=>Rows.laid_loop_example_g00084_impl_errCabin
 | 7=>Rows.laid_loop_example_g00084_impl_errPeople
 | 8=>Rows.laid_loop_example_g00084_impl_errFull
 | _=>.nil
theorem errTx_one:((List.range 9).all λi=>(List.range 9).all λj=>i == 0 || j == 0 || i == j || txOf (errD i) != txOf (errD j))=true:=by kernel_rfl
theorem zoz {n nm:String}{d:List UInt8}{r:List (String × DataW Unit)}{g:Nat}{E C B D:TypeId}{Q:Array (String × TypeId)}{f:Field}
  (h:laidMet P ((n,.iface nm (.ptr (.agg [.lit (.string d)]))) :: r) W)
  (I:P.globalNamed n=some g) (N:(P.globals[g]?).map (·.type)=some E) (K:P.underlying E=some (.interface Q)) (j:∀ u,P.typeName? 3 u=some nm->u=C)
  (L:P.underlying C=some (.pointer B)) (H:P.underlying B=some (.struct #[f])) (x:f.type=D) (w:f.offset=0) (M:P.underlying D=some .string) (G:P.cellsOf B=1) (p:P.cellsOf D=1) :
  ∃ (a:Addr) (s:ByteArray),W.cell? (g,0)=some (.iface C (.pointer (some a)))/\W.cell? a=some (.string s)/\s.data.toList=d/\∃ cs t,W.heap[a.block]?=some (.cells cs t (0,0)):=by
 obtain⟨ps,⟨g0,t0,m,f0,p0,q0,i,z,k,q,_,F⟩,_,b⟩:=h;obtain rfl:=Option.some.inj (I.symm.trans i);obtain rfl:=Option.some.inj (N.symm.trans z);subst F;obtain⟨O⟩:=m;have A:∀ u v,O=[.iface u v]->Value.okWide P W _ 0 u v:=λu v e=>by
  subst e;exact(b g 0 (by simp[MemPlace.row])).2 u v (by simpa using World.var?_cell i k 0)
 obtain⟨l,R,rfl,o,y,_,rfl⟩:=errorString_of_trod K j L H x w M G p q A;obtain⟨⟨c,t,J⟩,_⟩:=b l.block l.off (by simp[MemPlace.row])
 exact⟨l,R,by simpa using World.var?_cell i k 0,o,y,c,t,J⟩
theorem sentinel_at {n : String} {g:Nat} {d : DataW Unit} {r : List (String × DataW Unit)}  (h : laidMet Tryz.prog ((n, d) :: r) W) (hd : d = .iface "*errors.errorString" (.ptr (.agg [.lit (.string (txOf d))]))) (hg : Tryz.prog.globalNamed n = some g) (ht : (Tryz.prog.globals[g]?).map (·.type) = some 92) :
  ∃ (a:Addr) (s:ByteArray),W.cell? ⟨g,0,none⟩=some (.iface 391 (.pointer (some a)))/\W.cell? a=some (.string s)/\s.data.toList=txOf d/\∃ cs t,W.heap[a.block]?=some (.cells cs t (0,0)):=by
 rw[hd] at h;exact zoz h hg ht underlying92 Tryz.errRow underlying391 underlying413 rfl rfl underlying9 Tryz.errCells Tryz.strCells
theorem Tryz.rtypeRow: (Tryz.prog.cutTypes.find? (·.1 == "internal/reflectlite.rtype")).map (·.2) = some 284 := by kernel_rfl
theorem Tryz.errTypeRow:((List.range Tryz.prog.types.size).filter λt=>Tryz.prog.rowNamed t [101,114,114,111,114])=[92]:=by kernel_rfl
theorem Tryz.errHandle:typeHandle prog 92=.pointer (some (12,92)):=by kernel_rfl
theorem Tryz.gErrType: Tryz.prog.globalNamed "errors.errorType" = some 0 := by kernel_rfl
theorem handle_at  {r : List (String × DataW Unit)} (h : handlesMet Tryz.prog (("errors.errorType", Rows.laid_errors_errorType) :: r) W) : W.cell? ⟨0, 0, none⟩ = some (.iface 284 (.agg #[.pointer (some ⟨12, 92, none⟩)])) := by
 obtain⟨name,u,i,c,d,e,f,a⟩:=h _ (List.mem_cons_self ..);have g:=(Option.some.inj c).symm;subst g;obtain rfl:=Option.some.inj (Tryz.rtypeRow.symm.trans d);have b:i ∈ (List.range _).filter λt=>Tryz.prog.rowNamed t _:=List.mem_filter.2 ⟨List.mem_range.2 e,f⟩
 rw[Tryz.errTypeRow] at b;obtain rfl:=List.mem_singleton.1 b;rw[Tryz.errHandle] at a
 simpa using World.var?_cell Tryz.gErrType a 0
def lVars : List (String × DataW Unit) := [("loop.example/g00084/impl.carBands", Rows.laid_loop_example_g00084_impl_carBands), ("loop.example/g00084/impl.berthFares", Rows.laid_loop_example_g00084_impl_berthFares), ("loop.example/g00084/impl.errForm", Rows.laid_loop_example_g00084_impl_errForm), ("loop.example/g00084/impl.errRoute", Rows.laid_loop_example_g00084_impl_errRoute), ("loop.example/g00084/impl.errNone", Rows.laid_loop_example_g00084_impl_errNone), ("loop.example/g00084/impl.errState", Rows.laid_loop_example_g00084_impl_errState), ("loop.example/g00084/impl.errDeck", Rows.laid_loop_example_g00084_impl_errDeck), ("loop.example/g00084/impl.errCabin", Rows.laid_loop_example_g00084_impl_errCabin), ("loop.example/g00084/impl.errPeople", Rows.laid_loop_example_g00084_impl_errPeople), ("loop.example/g00084/impl.errFull", Rows.laid_loop_example_g00084_impl_errFull), ("loop.example/g00084/impl.opForms", Rows.laid_loop_example_g00084_impl_opForms)]
theorem laid_dop (h:laidMet prog lVars W):∃ pe,Zm W/\(Zq W/\Zu W)/\qY W pe:=by
 unfold lVars at h;have K:=h;have L:=K.tail;have M:=L.tail;obtain⟨g,s1,c1,Z,t1,o1⟩:=sentinel_at M rfl Tryz.gE1 Tryz.tE1;have N:=M.tail;obtain⟨l,s2,c2,d2,t2,o2⟩:=sentinel_at N rfl Tryz.gE2 Tryz.tE2;have O:=N.tail;obtain⟨m,s3,c3,d3,t3,o3⟩:=sentinel_at O rfl Tryz.gE3 Tryz.tE3;have P:=O.tail;obtain⟨n,s4,c4,d4,t4,o4⟩:=sentinel_at P rfl Tryz.gE4 Tryz.tE4;have Q:=P.tail;obtain⟨p,s5,c5,d5,t5,o5⟩:=sentinel_at Q rfl Tryz.gE5 Tryz.tE5;have R:=Q.tail;obtain⟨q,s6,c6,d6,t6,o6⟩:=sentinel_at R rfl Tryz.gE6 Tryz.tE6;have S:=R.tail;obtain⟨r,s7,c7,d7,t7,o7⟩:=sentinel_at S rfl Tryz.gE7 Tryz.tE7;have T:=S.tail;obtain⟨u,s8,c8,d8,t8,o8⟩:=sentinel_at T rfl Tryz.gE8 Tryz.tE8;have J:=T.tail;obtain⟨_,⟨g0,u0,V,f0,p0,q0,z,D,G,w,_⟩,_⟩:=K;obtain rfl:=Option.some.inj (Tryz.gBands.symm.trans z);obtain rfl:=Option.some.inj (Tryz.gBandsType.symm.trans D);obtain⟨_,⟨g1,u1,X,f1,p1,q1,A,E,H,x,_⟩,_⟩:=L;obtain rfl:=Option.some.inj (Tryz.gFares.symm.trans A);obtain rfl:=Option.some.inj (Tryz.gFaresType.symm.trans E);obtain⟨_,⟨g2,u2,Y,f2,p2,q2,B,F,I,y,_⟩,_⟩:=J;obtain rfl:=Option.some.inj (Tryz.gForms.symm.trans B);obtain rfl:=Option.some.inj (Tryz.gFormsType.symm.trans F);have d:∀ k,1<=k->k<=8->k=1∨k=2∨k=3∨k=4∨k=5∨k=6∨k=7∨k=8:=λk h1 h2=>by omega
 have at_:∀ k,_->_->∃ a s,a=(match k with|1=>g|2=>l|3=>m|4=>n|5=>p|6=>q|7=>r|_=>u)/\W.cell? a=some (.string s)/\s.data.toList=txOf (errD k)/\∃ cs t,W.heap[a.block]?=some (.cells cs t _):=λk h1 h2=>by
  rcases d k h1 h2 with rfl|rfl|rfl|rfl|rfl|rfl|rfl|rfl
  ·exact⟨g,s1,rfl,Z,t1,o1⟩
  ·exact⟨l,s2,rfl,d2,t2,o2⟩
  ·exact⟨m,s3,rfl,d3,t3,o3⟩
  ·exact⟨n,s4,rfl,d4,t4,o4⟩
  ·exact⟨p,s5,rfl,d5,t5,o5⟩
  ·exact⟨q,s6,rfl,d6,t6,o6⟩
  ·exact⟨r,s7,rfl,d7,t7,o7⟩
  ·exact⟨u,s8,rfl,d8,t8,o8⟩
 refine⟨λk=>match k with|1=>g|2=>l|3=>m|4=>n|5=>p|6=>q|7=>r|_=>u,forms_of I y,⟨bands_of G w,fares_of H x⟩,c1,c2,c3,c4,c5,c6,c7,c8,λk h1 h2=>?_,λi j h1 h2 h3 h4 a0 e=>?_⟩
 ·obtain⟨a,s,rfl,_,_,o⟩:=at_ k h1 h2
  exact o
 ·obtain⟨a,s,ea,da,U,_⟩:=at_ i h1 h2
  obtain⟨b,s',eb,f,tb,_⟩:=at_ j h3 h4;have v:=ea.trans (Eq.trans e eb.symm);subst v;rw[da] at f;have es:s=s':=by injection f with f;injection f
  have c:=errTx_one;simp only[List.all_eq_true,List.mem_range] at c;have C:=c i (by omega) j (by omega)
  rw[es,tb] at U;simp[U] at C
  omega
end
section
open Go.ChangeShapes Go.WideShapes Go.ChangeAt Go.RowKit
theorem laid_dopr {W:World}(h:laidMetH prog Rows.fnExactDoOpRow.laid W):∃ pe,Zm W/\(Zq W/\Zu W)/\qY W pe/\W.cell? (0,0)=some (.iface 284 (.agg #[.pointer (some (12,92))])):=by
 have a:laidMet _ lVars W/\handlesMet _ [_] W:=h;obtain⟨pe,h1,h2,h3⟩:=laid_dop a.1;exact⟨pe,h1,h2,h3,handle_at a.2⟩
theorem lawDoOpR (cs:List Value)(x:Off)(a:Int)(os:List Value)(y:OpD)(w:World)(f:Off.Short x 1000000000000000)(c:Off.Is w cs x)(hr:OpD.Short y 1000000000000000)(d:OpD.Is w os y)
  (h:∃ pe,Zm w/\(Zq w/\Zu w)/\qY w pe/\w.cell? (0,0)=some (.iface 284 (.agg #[.pointer (some (12,92))]))) :
  Calls prog 3 #[.agg cs.toArray,a,.agg os.toArray] w λe w'=>e=.returned (.bool true)/\Below w.heap.size w w':=by
 obtain⟨pe,h1,h2,h3,b⟩:=h;exact lawDoOp cs os x y a pe w f c hr d h1 h2 h3 b
theorem zoI {H:Type}{b:TypeId × Value->H}{P:Program}{w:World}{a:Nat->Bool}:∀ {d:List String}{c:List (DataW H)}{f:List MemPlace},DataW.TrodVars b P w a d c f->c.length=d.length
 | [],[],_,_=>rfl
 | [],_ :: _,_,h=>by simp[DataW.TrodVars] at h
 | _ :: _,[],_,h=>by simp[DataW.TrodVars] at h
 | _ :: _,_ :: _,_,h=>by
  obtain⟨_,_,_,_,_,_,_,_,_,_,e,_⟩:=h;simp[zoI e]
end
theorem joinA:(Rows.fnExactDoOpRow.inPlace == Tryz.prog.inPlace 3)=true:=by kernel_rfl
theorem joinB:(Rows.fnExactDoOpRow.unfollowed == Tryz.prog.unfollowed 3)=true:=by kernel_rfl
theorem joinC:(Rows.fnExactDoOpRow.recurses == Tryz.prog.recurses 3)=true:=by kernel_rfl
theorem joinE:(Rows.fnExactDoOpRow.named == Tryz.prog.varsNamed 3)=true:=by kernel_rfl
theorem joinD:joinedFacts prog 3 Tryz.f3 Rows.fnExactDoOpSpec Rows.fnExactDoOpRow=true:=by
 unfold joinedFacts;rw[joinA,joinB,joinC,joinE]
 kernel_rfl
section
open Go.ChangeShapes Go.WideShapes Go.ChangeAt Go.RowKit Go.Deep
section
variable {H : Type} {enc : TypeId × Value -> H} {P : Program} {w : World} {base : Nat} {spare : Nat -> Bool} {held : Bool}
end
end
section
open Go.ChangeShapes Go.WideShapes Go.ChangeAt Go.RowKit Go.Deep Go.Joins
theorem zor {H:Type}{P:Program}{e:Nat}{x:Nat}:∀ {l:List (DataW H)}{d:DataW H},d ∈ l->x ∈ DataW.weights P e d->x ∈ DataW.weightsAll P e l:=by
 intro l
 induction l with
 | nil=>intro d h;cases h
 | cons a l ih =>
  intro d h b;rw[DataW.weightsAll,List.mem_append]
  rcases List.mem_cons.1 h with rfl|h
  ·exact .inl b
  ·exact .inr (ih h b)
section
variable {H : Type} {enc : TypeId × Value -> H} {P : Program} {w : World} {base : Nat} {held : Bool}
theorem zoi {t e fuel sz bytes:Nat}{v:Value}{x:DataW H × List MemPlace}(E:P.underlying t=some (.slice e))(K:P.cellsOf e=sz)(h0:0<sz)(B:P.bytesOf e=bytes)
  (h:DataW.trod enc P w base (λ_=>true) held fuel t [v]=some x) (M:∀ y ∈ DataW.weights P t x.1,y<=reachBytes) :
  ∃ ao n d C,v=.slice ao n d/\QT w ao n sz C/\n<=d/\(ao=none->n=0/\d=0)/\d*bytes<=reachBytes /\
   ∀ k,k<n->(C k).length=sz/\∃ u z,DataW.trod enc P w base (λ_=>true) held u e (C k)=some z/\∀ y ∈ DataW.weights P e z.1,y<=reachBytes:=by
 rcases open_slice E h with⟨l,G⟩|⟨a,n,d,m,u,D,Pl,l,_,L,hm,s,G,f⟩
 ·simp at l
  subst l;exact⟨_,0,0,λ_=>[],rfl,λk c=>absurd c (Nat.not_lt_zero _),Jr _,λ_=>⟨rfl,rfl⟩,by omega,λk c=>absurd c (Nat.not_lt_zero _)⟩
 ·simp at l
  subst l;rw[Jf rfl] at s;subst s;have q:=by
   have:=M ((n+(m - n))*P.bytesOf e) (by rw[G];simp[DataW.weights,E])
   rw[B,show n+(m - n)=m by omega] at this
   exact this
  by_cases hn0:n=0
  ·subst hn0
   exact⟨_,0,m,λ_=>[],rfl,λk c=>absurd c (Nat.not_lt_zero _),L,(λh=>by cases h),q,λk c=>absurd c (Nat.not_lt_zero _)⟩
  have p:a.spot=none:=by
   obtain⟨cs,i,_⟩:=f 0 (by omega)
   rw[K] at i;obtain⟨_,r,o⟩:=World.cells?_some i;have J:=o 0 (by omega)
   rw[List.getElem?_eq_getElem (by omega)] at J
   have:=World.cell?_spot J
   simpa [Addr.add] using this
  obtain⟨b,off,spot⟩:=a;simp only at p;subst p;have I:∀ k,k<n->∃ cs,(cs.length=sz/\∀ j,j<sz->w.cell? (b,off+k*sz+j)=some (cs.getD j (.bool false)))/\∃ u z,DataW.trod enc P w base (λ_=>true) held u e cs=some z/\∀ y ∈ DataW.weights P e z.1,y<=reachBytes:=by
   intro k c;obtain⟨cs,i,F⟩:=f k (by omega)
   rw[K] at i;obtain⟨_,r,o⟩:=World.cells?_some i;refine⟨cs,⟨r,λj N=>?_⟩,_,_,F,λy O=>?_⟩
   ·have g:=o j N
    rw[List.getElem?_eq_getElem (by omega)] at g
    rw[List.getD_eq_getElem?_getD,List.getElem?_eq_getElem (by omega)]
    simp only[Addr.add_lit] at g;exact g
   ·refine M y ?_
    have h1:D k ∈ _:=List.mem_map.2 ⟨k,List.mem_range.2 c,rfl⟩;have h2:=zor h1 O;rw[G];simp[DataW.weights,E,h2]
  obtain⟨C,A⟩:=choose_lt I;exact⟨_,n,m,C,rfl,λk c=>⟨b,off,rfl,(A k c).1.2⟩,L,(λh=>by cases h),q,λk c=>⟨(A k c).1.1,(A k c).2⟩⟩
end
end
end Go.Proofs.YtmdnjgihooflfaaGreatDoor
