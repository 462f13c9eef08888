/-
  OWN TEXT: LaidF, LaidT, LaidS, LaidTx, PTexts.
-/
import Derived.ProofKit
import Derived.OpenShut
import Derived.LaidMore
import Derived.WalkSmall
import Derived.Lib.LaidTab
import Derived.Deep.DeepHandedRow
import Derived.Test.YtfallpinmhbemaaGreatDoorCards
import Derived.Test.YtfallpinmhbemaaGreatDoorTie
import Derived.OpenVars
import Derived.SevenTiedAt
import Derived.Test.YtfallpinmhbemaaGreatDoorB42
namespace Go.Proofs.YtfallpinmhbemaaGreatDoor
open Go.RowKit
open Go.Value (int)
open Go.IntKind (i64)
set_option maxHeartbeats 64000000
set_option maxRecDepth 100000
section
open Go.ChangeShapes Go.WideShapes Go.ChangeAt Go.RowKit
theorem Tryz.gForms : Tryz.prog.globalNamed "loop.example/g00084/impl.opForms" = some 0 := by kernel_rfl
theorem Tryz.gFormsType:(Tryz.prog.globals[0]?).map (·.type)=some 70:=by kernel_rfl
theorem Tryz.cellsF10:Tryz.prog.cellsOf 70=70:=by kernel_rfl
theorem Tryz.cellsForm:Tryz.prog.cellsOf 69=7:=by kernel_rfl
theorem Tryz.cellsInt1:Tryz.prog.cellsOf 3=1:=by kernel_rfl
theorem Tryz.cellsBool1:Tryz.prog.cellsOf 4=1:=by kernel_rfl
/-- A form read as its seven fields is those seven cells. -/
theorem zai {H:Type}{enc:TypeId × Value->H}{W:World}{base:Nat}{b:Nat->Bool}{c:Bool}{m:Nat}{l:List Value}{x:DataW H × List MemPlace}{e f:Bool}{i:Int}{g a4 j k:Bool}
  (h:DataW.trod enc Tryz.prog W base b c m 69 l=some x) (E:x.1=.agg [.lit (.bool e),.lit (.bool f),.lit (.int .i64 i),.lit (.bool g),.lit (.bool a4),.lit (.bool j),.lit (.bool k)]) :
  l=[.bool e,.bool f,int i64 i,.bool g,.bool a4,.bool j,.bool k]:=by
 obtain⟨N,n,_,rfl,hl,d,a⟩:=DataW.trod_struct Tryz.underlying69 h;rw[Tryz.cellsForm] at hl
 match N,d,l,hl with
 | [y0,y1,y2,y3,y4,y5,y6],_,[c0,c1,c2,c3,c4,c5,c6],_ =>
  have v:=a 0 _ rfl;have w:=a 1 _ rfl;have y:=a 2 _ rfl;have z:=a 3 _ rfl;have B:=a 4 _ rfl;have C:=a 5 _ rfl;have D:=a 6 _ rfl;simp[Tryz.cellsInt1,Tryz.cellsBool1] at v w y z B C D;obtain⟨k0,o,F⟩:=DataW.trod_bool Tryz.underlying4 v;obtain⟨k1,p,G⟩:=DataW.trod_bool Tryz.underlying4 w;obtain⟨k2,q,I,_⟩:=DataW.trod_int Tryz.underlying3 y;obtain⟨k3,r,J⟩:=DataW.trod_bool Tryz.underlying4 z;obtain⟨k4,s,K⟩:=DataW.trod_bool Tryz.underlying4 B;obtain⟨k5,t,L⟩:=DataW.trod_bool Tryz.underlying4 C;obtain⟨k6,u,M⟩:=DataW.trod_bool Tryz.underlying4 D;simp[F,G,I,J,K,L,M] at E;simp at o p q r s t u;obtain⟨rfl,rfl,rfl,rfl,rfl,rfl,rfl⟩:=E;rw[o,p,q,r,s,t,u]
theorem row_cell {l:List Value}{k j:Nat}(a:j<7)(r:List Value)(h:(l.drop (k*7)).take 7=r):l[k*7+j]?=r[j]?:=by
 rw[← h,List.getElem?_take,if_pos a,List.getElem?_drop]
theorem forms_of {H:Type}{enc:TypeId × Value->H}{W:World}{base:Nat}{e:Nat->Bool}{f:Bool}{fuel:Nat}{p:List MemPlace}{cs:Array Value}
  (hv : W.var? Tryz.prog "loop.example/g00084/impl.opForms" = some cs)
  (hd:DataW.trod enc Tryz.prog W base e f fuel 70 cs.toList=some (Rows.laid_loop_example_g00084_impl_opForms,p)):Qb W:=by
 obtain⟨C,m,_,i,g,hn,b⟩:=DataW.trod_array Tryz.underlying70 hd;rw[Tryz.cellsF10] at g;rw[Tryz.cellsForm] at b;have cell:=World.var?_cell Tryz.gForms q;obtain⟨l⟩:=cs;simp only[Prod.mk.injEq] at i;have i:=i.1
 match C,hn with
 | [x0,x1,x2,x3,x4,x5,x6,x7,x8,x9],_ =>
  simp[Rows.laid_loop_example_g00084_impl_opForms] at i;obtain⟨s,t,u,v,w,x,y,z,A,B⟩:=i;intro k hk;have c:∀ r:List Value,(l.drop (k*7)).take 7=r->∀ j,j<7->W.cell? ⟨0,k*7+j,none⟩=r[j]?:=fun r h j o=>by
   have:=cell (k*7+j);simp at this;rw[this];exact row_cell o r h
  have n:k=0∨k=1∨k=2∨k=3∨k=4∨k=5∨k=6∨k=7∨k=8∨k=9:=by omega
  rcases n with rfl|rfl|rfl|rfl|rfl|rfl|rfl|rfl|rfl|rfl
  ·have d:=zai (b 0 (by decide)) s.symm
   have a:=c _ d;exact⟨a 0 (by decide),a 1 (by decide),a 2 (by decide),a 3 (by decide),a 4 (by decide),a 5 (by decide),a 6 (by decide)⟩
  ·have d:=zai (b 1 (by decide)) t.symm
   have a:=c _ d;exact⟨a 0 (by decide),a 1 (by decide),a 2 (by decide),a 3 (by decide),a 4 (by decide),a 5 (by decide),a 6 (by decide)⟩
  ·have d:=zai (b 2 (by decide)) u.symm
   have a:=c _ d;exact⟨a 0 (by decide),a 1 (by decide),a 2 (by decide),a 3 (by decide),a 4 (by decide),a 5 (by decide),a 6 (by decide)⟩
  ·have d:=zai (b 3 (by decide)) v.symm
   have a:=c _ d;exact⟨a 0 (by decide),a 1 (by decide),a 2 (by decide),a 3 (by decide),a 4 (by decide),a 5 (by decide),a 6 (by decide)⟩
  ·have d:=zai (b 4 (by decide)) w.symm
   have a:=c _ d;exact⟨a 0 (by decide),a 1 (by decide),a 2 (by decide),a 3 (by decide),a 4 (by decide),a 5 (by decide),a 6 (by decide)⟩
  ·have d:=zai (b 5 (by decide)) x.symm
   have a:=c _ d;exact⟨a 0 (by decide),a 1 (by decide),a 2 (by decide),a 3 (by decide),a 4 (by decide),a 5 (by decide),a 6 (by decide)⟩
  ·have d:=zai (b 6 (by decide)) y.symm
   have a:=c _ d;exact⟨a 0 (by decide),a 1 (by decide),a 2 (by decide),a 3 (by decide),a 4 (by decide),a 5 (by decide),a 6 (by decide)⟩
  ·have d:=zai (b 7 (by decide)) z.symm
   have a:=c _ d;exact⟨a 0 (by decide),a 1 (by decide),a 2 (by decide),a 3 (by decide),a 4 (by decide),a 5 (by decide),a 6 (by decide)⟩
  ·have d:=zai (b 8 (by decide)) A.symm
   have a:=c _ d;exact⟨a 0 (by decide),a 1 (by decide),a 2 (by decide),a 3 (by decide),a 4 (by decide),a 5 (by decide),a 6 (by decide)⟩
  ·have d:=zai (b 9 (by decide)) B.symm
   have a:=c _ d;exact⟨a 0 (by decide),a 1 (by decide),a 2 (by decide),a 3 (by decide),a 4 (by decide),a 5 (by decide),a 6 (by decide)⟩
end
section
open Go.ChangeShapes Go.WideShapes Go.ChangeAt Go.RowKit
theorem Tryz.gPowType:(Tryz.prog.globals[4]?).map (·.type)=some 205:=by kernel_rfl
theorem Tryz.cellsPow:Tryz.prog.cellsOf 205=20:=by kernel_rfl
theorem Tryz.cellsU64:Tryz.prog.cellsOf 58=1:=by kernel_rfl
theorem pow_data {H:Type}:(Rows.laid_internal_strconv_uint64pow10:DataW H)=Lib.tabData .u64 Lib.pow10Tab:=by
 unfold Rows.laid_internal_strconv_uint64pow10 Lib.tabData Lib.pow10Tab
 rfl
theorem pow_of {H:Type}{enc:TypeId × Value->H}{W:World}{base:Nat}{a:Nat->Bool}{b:Bool}{fuel:Nat}{p:List MemPlace}{cs:Array Value}
  (hv : W.var? Tryz.prog "internal/strconv.uint64pow10" = some cs)
  (hd:DataW.trod enc Tryz.prog W base a b fuel 205 cs.toList=some (Rows.laid_internal_strconv_uint64pow10,p)):Ze W:=by
 rw[pow_data] at hd;unfold Ze Lib.TabIs;rw[c,← Lib.cells_of_tab Tryz.underlying205 Tryz.underlying58 Tryz.cellsU64 Tryz.cellsPow hd]
theorem Tryz.gWords : Tryz.prog.globalNamed "loop.example/g00084/impl.opWords" = some 1 := by kernel_rfl
theorem Tryz.gWordsType:(Tryz.prog.globals[1]?).map (·.type)=some 84:=by kernel_rfl
theorem Tryz.cellsW10:Tryz.prog.cellsOf 84=10:=by kernel_rfl
theorem Tryz.cellsStr1:Tryz.prog.cellsOf 9=1:=by kernel_rfl
theorem Qw {s:ByteArray}{l:List UInt8}(h:s.data.toList=l):s=⟨l.toArray⟩:=by
 subst h
 apply ByteArray.ext
 simp
theorem words_of {H:Type}{enc:TypeId × Value->H}{W:World}{base:Nat}{c:Nat->Bool}{d:Bool}{fuel:Nat}{p:List MemPlace}{cs:Array Value}
  (hv : W.var? Tryz.prog "loop.example/g00084/impl.opWords" = some cs)
  (hd:DataW.trod enc Tryz.prog W base c d fuel 84 cs.toList=some (Rows.laid_loop_example_g00084_impl_opWords,p)):Qc W:=by
 obtain⟨Z,m,_,e,b,hn,a⟩:=DataW.trod_array Tryz.underlying84 hd;rw[Tryz.cellsW10] at b;rw[Tryz.cellsStr1] at a;have cell:=World.var?_cell Tryz.gWords M;obtain⟨l⟩:=cs;simp only[Prod.mk.injEq] at e;have e:=e.1
 match Z,hn,l,b with
 | [x0,x1,x2,x3,x4,x5,x6,x7,x8,x9],_,[c0,c1,c2,c3,c4,c5,c6,c7,c8,c9],_ =>
  have t:=a 0 (by decide)
  have u:=a 1 (by decide)
  have v:=a 2 (by decide)
  have w:=a 3 (by decide)
  have x:=a 4 (by decide)
  have y:=a 5 (by decide)
  have z:=a 6 (by decide)
  have h7:=a 7 (by decide)
  have h8:=a 8 (by decide)
  have A:=a 9 (by decide)
  simp at t u v w x y z h7 h8 A;obtain⟨Y,f,B,_⟩:=DataW.trod_string Tryz.underlying9 t;obtain⟨s1,g,C,_⟩:=DataW.trod_string Tryz.underlying9 u;obtain⟨s2,h,D,_⟩:=DataW.trod_string Tryz.underlying9 v;obtain⟨s3,i,f3,_⟩:=DataW.trod_string Tryz.underlying9 w;obtain⟨s4,j,E,_⟩:=DataW.trod_string Tryz.underlying9 x;obtain⟨s5,n,F,_⟩:=DataW.trod_string Tryz.underlying9 y;obtain⟨s6,o,G,_⟩:=DataW.trod_string Tryz.underlying9 z;obtain⟨s7,q,I,_⟩:=DataW.trod_string Tryz.underlying9 h7;obtain⟨s8,r,J,_⟩:=DataW.trod_string Tryz.underlying9 h8;obtain⟨s9,s,K,_⟩:=DataW.trod_string Tryz.underlying9 A;simp[Rows.laid_loop_example_g00084_impl_opWords,B,C,D,f3,E,F,G,I,J,K] at e;simp at f g h i j n o q r s;obtain⟨N,O,P,Q,R,S,T,U,V,X⟩:=e;subst f g h i j n o q r s;intro k hk;have L:k=0∨k=1∨k=2∨k=3∨k=4∨k=5∨k=6∨k=7∨k=8∨k=9:=by omega
  rcases L with rfl|rfl|rfl|rfl|rfl|rfl|rfl|rfl|rfl|rfl
  ·have:=cell 0
   simp at this;rw[this,show Y=⟨#[]⟩ from ByteArray.ext N]
   rfl
  ·have:=cell 1
   simp at this;rw[this,Qw O.symm]
   rfl
  ·have:=cell 2
   simp at this;rw[this,Qw P.symm]
   rfl
  ·have:=cell 3
   simp at this;rw[this,Qw Q.symm]
   rfl
  ·have:=cell 4
   simp at this;rw[this,Qw R.symm]
   rfl
  ·have:=cell 5
   simp at this;rw[this,Qw S.symm]
   rfl
  ·have:=cell 6
   simp at this;rw[this,Qw T.symm]
   rfl
  ·have:=cell 7
   simp at this;rw[this,Qw U.symm]
   rfl
  ·have:=cell 8
   simp at this;rw[this,Qw V.symm]
   rfl
  ·have:=cell 9
   simp at this;rw[this,Qw X.symm]
   rfl
end
section
open Go.ChangeShapes Go.WideShapes Go.ChangeAt Go.RowKit
theorem Tryz.gLines : Tryz.prog.globalNamed "loop.example/g00084/impl.lineForms" = some 2 := by kernel_rfl
theorem Tryz.gLinesType:(Tryz.prog.globals[2]?).map (·.type)=some 103:=by kernel_rfl
theorem Tryz.cellsL11:Tryz.prog.cellsOf 103=22:=by kernel_rfl
theorem Tryz.cellsLine:Tryz.prog.cellsOf 102=2:=by kernel_rfl
theorem zhD {H:Type}{enc:TypeId × Value->H}{W:World}{base:Nat}{b:Nat->Bool}{c:Bool}{m:Nat}{l:List Value}{x:DataW H × List MemPlace}{a:List UInt8}{i:Int}
  (h:DataW.trod enc Tryz.prog W base b c m 102 l=some x) (k:x.1=.agg [.lit (.string a),.lit (.int .i64 i)]):l[0]?=some (.string ⟨a.toArray⟩):=by
 obtain⟨q,n,_,rfl,hl,d,j⟩:=DataW.trod_struct Tryz.underlying102 h;rw[Tryz.cellsLine] at hl
 match q,d,l,hl with
 | [y0,y1],_,[c0,c1],_ =>
  have f:=j 0 _ rfl;have g:=j 1 _ rfl;simp[Tryz.cellsInt1,Tryz.cellsStr1] at f g;obtain⟨s0,e,o,_⟩:=DataW.trod_string Tryz.underlying9 f;obtain⟨k1,e1,p,_⟩:=DataW.trod_int Tryz.underlying3 g;simp[o,p] at k;simp at e;rw[e,Qw k.1]
  rfl
theorem line_of {H:Type}{enc:TypeId × Value->H}{W:World}{base:Nat}{a:Nat->Bool}{d:Bool}{fuel:Nat}{p:List MemPlace}{cs:Array Value}
  (hv : W.var? Tryz.prog "loop.example/g00084/impl.lineForms" = some cs)
  (hd:DataW.trod enc Tryz.prog W base a d fuel 103 cs.toList=some (Rows.laid_loop_example_g00084_impl_lineForms,p)):zaT W:=by
 obtain⟨j,m,_,f,e,hn,b⟩:=DataW.trod_array Tryz.underlying103 hd;rw[Tryz.cellsL11] at e;rw[Tryz.cellsLine] at b;have cell:=World.var?_cell Tryz.gLines h;obtain⟨l⟩:=cs;simp only[Prod.mk.injEq] at f;have f:=f.1
 match j,hn with
 | [x0,x1,x2,x3,x4,x5,x6,x7,x8,x9,x10],_ =>
  simp[Rows.laid_loop_example_g00084_impl_lineForms] at f;obtain⟨q0,i,_⟩:=f;have g:=zhD (b 1 (by decide)) i.symm
  have c:=cell 2;simp at c g;unfold zaT;rw[c];exact g
end
section
open Go.ChangeShapes Go.WideShapes Go.ChangeAt Go.RowKit
theorem laid_texts {W : World} {a b : DataW Unit} (h : laidMetH Tryz.prog [("math/bits.deBruijn32tab", a), ("math/bits.deBruijn64tab", b), ("internal/strconv.uint64pow10", Rows.laid_internal_strconv_uint64pow10), ("loop.example/g00084/impl.lineForms", Rows.laid_loop_example_g00084_impl_lineForms), ("loop.example/g00084/impl.opWords", Rows.laid_loop_example_g00084_impl_opWords), ("loop.example/g00084/impl.opForms", Rows.laid_loop_example_g00084_impl_opForms)] W) (hp : laidMetH Tryz.prog [("math/bits.deBruijn32tab", a), ("math/bits.deBruijn64tab", b), ("internal/strconv.uint64pow10", Rows.laid_internal_strconv_uint64pow10), ("loop.example/g00084/impl.lineForms", Rows.laid_loop_example_g00084_impl_lineForms), ("loop.example/g00084/impl.opWords", Rows.laid_loop_example_g00084_impl_opWords), ("loop.example/g00084/impl.opForms", Rows.laid_loop_example_g00084_impl_opForms)] W ↔ laidMet Tryz.prog [("math/bits.deBruijn32tab", a), ("math/bits.deBruijn64tab", b), ("internal/strconv.uint64pow10", Rows.laid_internal_strconv_uint64pow10), ("loop.example/g00084/impl.lineForms", Rows.laid_loop_example_g00084_impl_lineForms), ("loop.example/g00084/impl.opWords", Rows.laid_loop_example_g00084_impl_opWords), ("loop.example/g00084/impl.opForms", Rows.laid_loop_example_g00084_impl_opForms)] W) : TabsT W := by
 have h:=x.1 h;obtain⟨ps,⟨_,_,_,_,_,_,_,_,_,_,⟨_,_,_,_,_,_,_,_,_,_,⟨g2,t2,t,f2,p2,q2,g,l,p,c,⟨g3,t3,u,f3,p3,q3,i,m,q,d,⟨g4,t4,v,f4,p4,q4,j,n,r,e,⟨g5,t5,w,f5,p5,q5,k,o,s,f,_⟩,_⟩,_⟩,_⟩,_⟩,_⟩,_⟩:=h;obtain rfl:=Option.some.inj (Tryz.gPow.symm.trans g);obtain rfl:=Option.some.inj (Tryz.gPowType.symm.trans l);obtain rfl:=Option.some.inj (Tryz.gLines.symm.trans i);obtain rfl:=Option.some.inj (Tryz.gLinesType.symm.trans m);obtain rfl:=Option.some.inj (Tryz.gWords.symm.trans j);obtain rfl:=Option.some.inj (Tryz.gWordsType.symm.trans n);obtain rfl:=Option.some.inj (Tryz.gForms.symm.trans k);obtain rfl:=Option.some.inj (Tryz.gFormsType.symm.trans o);exact⟨forms_of s f,pow_of p c,words_of r e,line_of q d⟩
end
section
open Go.ChangeShapes Go.WideShapes Go.ChangeAt Go.RowKit Go.Deep Go.Joins
theorem ziI {H:Type}{enc:TypeId × Value->H}{P:Program}{w:World}{a:Nat->Bool}{g i j:String}{b:List (DataW H)}{k:List MemPlace}(h:DataW.TrodVars enc P w a [g,i,j] b k):∃ d0 d1 d2,b=[d0,d1,d2]:=by
 cases b with
 | nil=>simp[DataW.TrodVars] at h
 | cons d ds =>
  obtain⟨g0,t0,c,f0,p0,q0,h1,h2,h3,h4,f,e⟩:=h;obtain⟨_,_,_,_,d1,_,_,_,_,_,d2,_,rfl,_⟩:=trodVars_two f;exact⟨d,d1,d2,rfl⟩
theorem zgE (os:Os)(args:Array Value):laidMetH Tryz.prog Rows.fnTextsRow.laid ((World.doorLaid Tryz.prog 400 os).forCall (fun _ _=>0) ⟨#[],args,[]⟩).memory :=
 laidMetH_of_parts3 (fuel:=8) (laidMet_of_run' 8 (by kernel_rfl) (by kernel_rfl)) (by kernel_rfl) (by kernel_rfl)
theorem zdI (os:Os)(c:os.Started)(H:Type)(enc:TypeId × Value->H) :
  ReturnsInHanded {} Tryz.checked os 3 .any (fun w args=>(Rows.fnTextsSpec.pre enc Tryz.prog Tryz.f3 [] false w args/\laidMetH Tryz.prog Rows.fnTextsRow.laid w)/\sizedMet enc Tryz.prog Tryz.f3 (OpenSpec.ofChange Rows.fnTextsSpec) false w args) (Rows.fnTextsSpec.post enc Tryz.prog Tryz.f3 false true false false):=by
 refine returnsInHanded_of_change_and (C:=Tryz.checked) (X:=fun w _=>laidMetH Tryz.prog Rows.fnTextsRow.laid w) (fun _ _ _ hh h=>h.of_heap hh) Tryz.own c (by kernel_rfl) Tryz.func3
  (ChangeSpec.witness_shaped (enc:=enc) (C:=Tryz.checked) (os:=os) (X:=fun w _=>laidMetH Tryz.prog Rows.fnTextsRow.laid w) false (World.doorLaid Tryz.prog 400 os) #[.slice none 0 0,.slice none 0 0] 8 rfl (World.shaped_of_RefB (by kernel_rfl) (by kernel_rfl)) (by kernel_rfl) (by kernel_rfl) (by kernel_rfl) (zgE os _)) ?_
 intro W base args I Y i b N _ d Z _;have f:(DataW.weightsEach Tryz.prog (Tryz.f3.params.toList++Rows.fnTextsSpec.plain.varTypes Tryz.prog) (I++Y)).all (·<=reachBytes)=true:=d;clear d;have a:∀ (j:Nat) t v,Tryz.f3.params[j]?=some t->args[j]?=some v->Value.okWide Tryz.prog W .any base t v:=b;have o:=N;obtain⟨p,q,g,M,rfl,a0,a1⟩:=N;have L:DataW.TrodAll enc Tryz.prog W 0 (fun _=>true) true Tryz.f3.params.toList args.toList I p:=g
 rw[Tryz.params3] at L a f;obtain⟨P,a2,T,U,p0,q0,r,rfl,rfl,J,r0⟩:=trodAll_cons L;obtain⟨Q,a3,d1,V,p1,q1,rfl,rfl,rfl,K,r1⟩:=trodAll_cons r0;obtain⟨rfl,rfl,rfl⟩:=trodAll_nil r1;obtain rfl:args=#[P,Q]:=by cases args;simp_all
 have n:=M;obtain⟨g0,g1,g2,rfl⟩:=ziI n;have O:=J;have F:∀ x ∈ p0,x.block<W.heap.size:=by obtain⟨m,s⟩:=O;exact DataW.trod_lt m _ _ _ s
 have z:∀ x ∈ DataW.weights Tryz.prog 22 T,x<=reachBytes:=by
  intro x B;have:=List.all_eq_true.1 f x (by simp[DataW.weightsEach,B])
  simpa using this
 obtain⟨k,n0,R,rfl,u,D⟩:=zgD (a 0 22 P rfl rfl) J z;have k1:=K;have G:∀ x ∈ p1,x.block<W.heap.size:=by obtain⟨m,s⟩:=k1;exact DataW.trod_lt m _ _ _ s
 have A:∀ x ∈ DataW.weights Tryz.prog 22 d1,x<=reachBytes:=by
  intro x B;have:=List.all_eq_true.1 f x (by simp[DataW.weightsEach,B])
  simpa using this
 obtain⟨l,n1,S,rfl,y,E⟩:=zgD (a 1 22 Q rfl rfl) K A;clear g b;refine(lawTexts k n0 R l n1 S W u D y E (ziH Z (Iff.of_eq (MakeChecks.laidMetH_plain _ _ _ (by kernel_rfl))))).mono fun e W' ⟨he,bel⟩=>?_
 subst he;exact⟨_,rfl,_,_,_,[],_,_,o,trodAll_mk1 (shut_bool Tryz.underlying4 _),(trodAll_cons_mk (Below.trod Tryz.laidOut (by kernel_rfl) (of_decide_eq_true (by kernel_rfl)) O bel F) (trodAll_cons_mk (Below.trod Tryz.laidOut (by kernel_rfl) (of_decide_eq_true (by kernel_rfl)) k1 bel G) trodAll_mk0)),Below.trodVars Tryz.laidOut bel (by kernel_rfl) M,bel.frame _,fun h=>by cases h⟩
theorem zdT:Rows.FnTextsSaid :=
 OpenClaim.holds_of_wide 3 Tryz.f3 rfl rfl rfl rfl rfl rfl rfl ⟨rfl,rfl,rfl,rfl,rfl⟩ rfl rfl rfl rfl rfl (by kernel_rfl) Tryz.func3 (by kernel_rfl)
  (of_decide_eq_true (by kernel_rfl)) (by unfold Func.isWrapper;first|(rw[if_pos (by decide +kernel)];kernel_rfl)|(rw[if_neg (by decide +kernel)];exact⟨rfl,rfl⟩))
  (fun os a H enc _=>zdI os a H enc)
theorem textsRow_card:Rows.FnTextsCardSaid :=
 Claim7.holds_tied_plain_at .later [] _ _ _ _ zdT (fun _ h=>by cases h) (by kernel_rfl) (fun _ h=>by cases h) fnTexts_row_tie rfl ⟨rfl,rfl⟩ (by kernel_rfl) rfl
  (fun f c d b=>by
   obtain rfl : f = 3 := Option.some.inj ((show Tryz.prog.funcNamed "loop.example/g00084/laws.FnTexts" = some 3 by kernel_rfl).symm.trans hf) |>.symm
   obtain rfl:c=Tryz.f3:=(Option.some.inj (Tryz.func3.symm.trans b)).symm;refine⟨by kernel_rfl,fun j t a=>?_⟩
   rw[Tryz.params3] at a
   rcases j with _|_|j
   ·obtain rfl:t=22:=by simpa using a.symm
    exact(show Tryz.prog.wantsStandIn 22=false by kernel_rfl)
   ·obtain rfl:t=22:=by simpa using a.symm
    exact(show Tryz.prog.wantsStandIn 22=false by kernel_rfl)
   ·simp at a)
  (by kernel_rfl)
#print axioms textsRow_card
end
end Go.Proofs.YtfallpinmhbemaaGreatDoor
