/-
  OWN TEXT: KitG, KitNw, LLoad, LLoads, LBookings0, InfoI, IntsEq.
-/
import Derived.BigQuiet
import Derived.Deep.RegionHeld3
import Derived.Deep.DeepCutAuto
import Derived.Test.YtmdnjgihooflfaaGreatDoorRows
import Derived.Test.YtmdnjgihooflfaaGreatDoorB02
namespace Go.Proofs.YtmdnjgihooflfaaGreatDoor
open Go.RowKit
open Go.Value (int)
open Go.IntKind (i64)
open Tryz
set_option maxHeartbeats 64000000
set_option maxRecDepth 100000
structure zn (W:World) where
 val:World
 bel:Below W.heap.size W val
instance (W:World):Nonempty (zn W):=⟨⟨W,bZ⟩⟩
theorem zh {P:Program}{id:Nat}{Q:Exit->Act->World->Prop}{a:Act}{w:World}{l:List Oper}(d:P.follows .mixedOrders=true)(c:Region.lexB .any l.toArray=true)
  (h:wpQuiet P l.toArray (λw'=>∃ g:zn w,w'=g.val) (λb=>∀ w',(∃ g:zn w,w'=g.val)->Q .normal b w') l a):(Code.region id l.toArray true).wp P Q a w :=
 wp_region_quiet (C:=λw'=>∃ g:zn w,w'=g.val) d c ⟨⟨_,(Ji _ w).drew⟩,rfl⟩ (by simpa using h)
theorem zf {P:Program}{f:FuncId}{args:Array Value}{W:World}{g:zn W}{v:Value}
  (h:Calls P f args g.val λe w'=>e=.returned v/\Below g.val.heap.size g.val w'):Calls P f args g.val λe a=>e=.returned v/\∃ g':zn W,a=g'.val :=
 h.mono λ_ w' ⟨he,hb⟩=>⟨he,⟨w',ze g.bel hb⟩,rfl⟩
section
open Go.RowKit
section
variable {w : World} {o1 o2 o3 o4 o : Obj} {n b : Nat}
theorem zoP (_h:Below n w (w.alloc o1)):(w.alloc o1).heap[w.heap.size]?=some o1:=(Jb w o1)
theorem nw1BS (_h:Below n w (w.alloc o1)):(w.alloc o1).heap.size=w.heap.size+1:=by simp
theorem zoS (_h:(w.alloc o1).heap[b]?=some o):Below w.heap.size w (w.alloc o1):=zk bZ _
theorem zoQ (_h:Below n w ((w.alloc o1).alloc o2)):((w.alloc o1).alloc o2).heap[w.heap.size]?=some o1:=(zd (Jb w o1) o2)
theorem zoR (_h:Below n w ((w.alloc o1).alloc o2)):((w.alloc o1).alloc o2).heap[w.heap.size+1]?=some o2:=(by simpa using Jb (w.alloc o1) o2:((w.alloc o1).alloc o2).heap[w.heap.size+1]?=some o2)
theorem nw2HB (_h:((w.alloc o1).alloc o2).heap[b]?=some o):Below w.heap.size w ((w.alloc o1).alloc o2):=zk (zk bZ _) _
theorem nw2H0 (_h:((w.alloc o1).alloc o2).heap[b]?=some o):((w.alloc o1).alloc o2).heap[w.heap.size]?=some o1:=(zd (Jb w o1) o2)
theorem zoT (_h:((w.alloc o1).alloc o2).heap[b]?=some o):((w.alloc o1).alloc o2).heap[w.heap.size+1]?=some o2:=(by simpa using Jb (w.alloc o1) o2:((w.alloc o1).alloc o2).heap[w.heap.size+1]?=some o2)
theorem nw3B0 (_h:Below n w (((w.alloc o1).alloc o2).alloc o3)):(((w.alloc o1).alloc o2).alloc o3).heap[w.heap.size]?=some o1:=(zd (zd (Jb w o1) o2) o3)
theorem nw3B1 (_h:Below n w (((w.alloc o1).alloc o2).alloc o3)):(((w.alloc o1).alloc o2).alloc o3).heap[w.heap.size+1]?=some o2:=(zd (by simpa using Jb (w.alloc o1) o2:((w.alloc o1).alloc o2).heap[w.heap.size+1]?=some o2) o3)
theorem nw3B2 (_h:Below n w (((w.alloc o1).alloc o2).alloc o3)):(((w.alloc o1).alloc o2).alloc o3).heap[w.heap.size+1+1]?=some o3:=(by simpa using Jb ((w.alloc o1).alloc o2) o3:(((w.alloc o1).alloc o2).alloc o3).heap[w.heap.size+1+1]?=some o3)
theorem nw3HB (_h:(((w.alloc o1).alloc o2).alloc o3).heap[b]?=some o):Below w.heap.size w (((w.alloc o1).alloc o2).alloc o3):=zk (zk (zk bZ _) _) _
theorem nw3H1 (_h:(((w.alloc o1).alloc o2).alloc o3).heap[b]?=some o):(((w.alloc o1).alloc o2).alloc o3).heap[w.heap.size+1]?=some o2:=(zd (by simpa using Jb (w.alloc o1) o2:((w.alloc o1).alloc o2).heap[w.heap.size+1]?=some o2) o3)
theorem nw3H2 (_h:(((w.alloc o1).alloc o2).alloc o3).heap[b]?=some o):(((w.alloc o1).alloc o2).alloc o3).heap[w.heap.size+1+1]?=some o3:=(by simpa using Jb ((w.alloc o1).alloc o2) o3:(((w.alloc o1).alloc o2).alloc o3).heap[w.heap.size+1+1]?=some o3)
theorem nw3HS (_h:(((w.alloc o1).alloc o2).alloc o3).heap[b]?=some o):(((w.alloc o1).alloc o2).alloc o3).heap.size=w.heap.size+1+1+1:=by simp
theorem nw4B3 (_h:Below n w ((((w.alloc o1).alloc o2).alloc o3).alloc o4)):((((w.alloc o1).alloc o2).alloc o3).alloc o4).heap[w.heap.size+1+1+1]?=some o4:=(by simpa using Jb (((w.alloc o1).alloc o2).alloc o3) o4:((((w.alloc o1).alloc o2).alloc o3).alloc o4).heap[w.heap.size+1+1+1]?=some o4)
end
end
section
open Go.RowKit
variable{w:World}{g t:Nat}{u0 u1 u2:Value}
theorem zjM {v0:Value}(h:w.heap[g]?=some (.cells #[u0,u1,u2] t (0,0))):(qH w g 0 [v0]).heap[g]?=some (.cells #[v0,u1,u2] t (0,0)):=by
 have:=(zm h 0 v0);simp only[qH]
 simpa using this
theorem zjN {v1:Value}(h:w.heap[g]?=some (.cells #[u0,u1,u2] t (0,0))):(qH w g 1 [v1]).heap[g]?=some (.cells #[u0,v1,u2] t (0,0)):=by
 have:=(zm h 1 v1);simp only[qH]
 simpa using this
theorem zjO {v2:Value}(h:w.heap[g]?=some (.cells #[u0,u1,u2] t (0,0))):(qH w g 2 [v2]).heap[g]?=some (.cells #[u0,u1,v2] t (0,0)):=by
 have:=(zm h 2 v2);simp only[qH]
 simpa using this
theorem zjP {v0 v1 v2:Value}(h:w.heap[g]?=some (.cells #[u0,u1,u2] t (0,0))):(qH w g 0 [v0,v1,v2]).heap[g]?=some (.cells #[v0,v1,v2] t (0,0)):=by
 have:=(zm (zm (zm h 0 v0) 1 v1) 2 v2);simp only[qH]
 simpa using this
theorem zmX (l:Option Addr)(stn o:Nat)(j:Option Addr)(ron m:Nat)(k:Option Addr)(sen n:Nat)(L:Int)(w:World)(h0:0<=L)(hL:L<=1048576)(t:stn<=1000000000000000)(q:ron<=1000000000000000)(s:sen<=1000000000000000) :
  Calls prog 79 #[.agg #[(l,stn,o),(j,ron,m),(k,sen,n)],L] w λe w'=>∃ r:Int,e=.returned r/\(r=-1∨(0<=r/\r<=L/\stn<=1048576/\ron<=1048576/\sen<=1048576))/\Below w.heap.size w w':=by
 have p:Below _ w (w.alloc (.cells #[(l,stn,o),(j,ron,m),(k,sen,n)] 132)):=zk bZ _;have u:=zoP p;go_enter func79,ntmps79;go_wp2_with fail;refine(zls l stn o (L) _ (by omega) (by omega) t).mono ?_
 rintro e w0 ⟨J,rfl,v,c⟩;have a:=zb u c;have g:=ze p c
 rcases v with rfl|⟨z,K,A⟩
 ·go_wp2
  go_ret;exact⟨_,rfl,.inl rfl,g⟩
 ·have d0:decide (J<0)=false:=by simpa using z
  have G:=za a 1 _ rfl;have H:=za a 2 _ rfl;go_wp2_with fail;refine(zlv j ron m _ _ (by omega) (by omega) q).mono ?_
  rintro e w1 ⟨M,rfl,x,d⟩;have b:=zb a d;have h:=ze g d
  rcases x with rfl|⟨B,N,C⟩
  ·go_wp2
   go_ret;exact⟨_,rfl,.inl rfl,h⟩
  ·have d1:decide (M<0)=false:=by simpa using B
   have I:=za b 2 _ rfl;go_wp2_with fail;refine(zly k sen n _ _ (by omega) (by omega) s).mono ?_
   rintro e w2 ⟨O,rfl,y,f⟩;have F:=zb b f;have i:=ze h f
   rcases y with rfl|⟨D,P,E⟩
   ·go_wp2
    go_ret;exact⟨_,rfl,.inl rfl,i⟩
   ·have d2:decide (O<0)=false:=by simpa using D
    go_wp2;go_ret;exact⟨_,rfl,.inr ⟨by omega,by omega,A,C,E⟩,i⟩
theorem zmY (m:Option Addr)(stn q:Nat)(st:Nat->Zp)(k:Option Addr)(ron o:Nat)(ro:Nat->qN)(l:Option Addr)(sen p:Nat)(se:Nat->Qe)(w:World)(b6:stn<=1048576)(b4:ron<=1048576)(b5:sen<=1048576)(b3:qw w m stn st)(b1:qp w k ron ro)(b2:qE w l sen se) :
  Calls prog 95 #[.agg #[(m,stn,q),(k,ron,o),(l,sen,p)]] w λe w'=>∃ d f g,e=.returned (.agg #[(some (d,0),stn,stn),(some (f,0),ron,ron),(some (g,0),sen,sen)])/\(w.heap.size<=d/\d<w'.heap.size/\w'.rowIs d 220 (stn*4) (qv st))/\(w.heap.size<=f/\f<w'.heap.size/\w'.rowIs f 228 (ron*4) (qs ro))/\(w.heap.size<=g/\g<w'.heap.size/\w'.rowIs g 234 (sen*2) (qL se))/\Below w.heap.size w w':=by
 go_enter func95,ntmps95;go_wp2_with fail;obtain⟨W0,y⟩:∃ W,W=(((w.alloc (.cells #[(m,stn,q),(k,ron,o),(l,sen,p)] 132)).alloc (.cells #[True,True,True] 145)).alloc (.cells #[True,True,True] 145)):=⟨_,rfl⟩;have H0:Below w.heap.size w W0:=by rw[y];exact zk (zk (zk bZ _) _) _
 have A0:W0.heap[w.heap.size]?=some (.cells #[(m,stn,q),(k,ron,o),(l,sen,p)] 132 (0,0)):=by rw[y];exact zd (zd (Jb w _) _) _
 have R0:W0.heap[w.heap.size+1]?=some (.cells #[True,True,True] 145 (0,0)):=by rw[y];exact zd (by simpa using Jb (w.alloc _) _) _
 have O0:W0.heap[w.heap.size+1+1]?=some (.cells #[True,True,True] 145 (0,0)):=by rw[y];simpa using Jb ((w.alloc _).alloc _) _
 rw[← y];clear y;refine(zlr m stn q st _ b6 (b3.below H0)).mono ?_;rintro e v0 ⟨d,rfl,a3,a,A⟩;have K:=zb A0 A;have V:=zb R0 A;have C:=zb O0 A;have S:=ze H0 A;have d0:w.heap.size+1+1<d:=by have:=zM O0;omega
 have a0:w.heap.size<=d:=by omega
 clear A0 R0 O0 H0 A a3;have b7:=za K 1 _ rfl;have O:=za C 0 _ rfl;have a8:=zg C 0;go_wp2_with fail;clear b7 a8 O;obtain⟨Q,r⟩:∃ W,W=qH v0 (w.heap.size+1+1) 0 [(some (d,0),stn,stn)]:=⟨_,rfl⟩;have A1:Q.heap[w.heap.size]?=some (.cells #[(m,stn,q),(k,ron,o),(l,sen,p)] 132 (0,0)):=by rw[r];exact qe (by omega) _ _ _ K
 have R1:Q.heap[w.heap.size+1]?=some (.cells #[True,True,True] 145 (0,0)):=by rw[r];exact qe (by omega) _ _ _ V
 have O1:Q.heap[w.heap.size+1+1]?=some (.cells #[(some (d,0),stn,stn),True,True] 145 (0,0)):=by rw[r];exact zjM C
 have H1:Below w.heap.size w Q:=by rw[r];exact qZ (by omega) _ _ _ S
 have b:Q.rowIs d 220 (stn*4) (qv st):=by rw[r];exact qD (by omega) _ _ _ a
 have a4:Q=(v0.setCell (w.heap.size+1+1,0) (some (d,0),stn,stn)):=by rw[r];rfl
 rw[← a4];clear r a4 K V C S a;have a:=b;clear b;refine(zlu k ron o ro _ b4 (b1.below H1)).mono ?_;rintro e v1 ⟨f,rfl,a1,c,z⟩;have L:=zb A1 z;have X:=zb R1 z;have D:=zb O1 z;have T:=ze H1 z;have v:=qo a z;have c0:w.heap.size+1+1<f:=by have:=zM O1;omega
 have Y:w.heap.size<=f:=by omega
 clear A1 R1 O1 H1 z a1 a;have a:=v;clear v;have b8:=za L 2 _ rfl;have P:=za D 1 _ rfl;have a9:=zg D 1;go_wp2_with fail;clear b8 a9 P;obtain⟨M,n⟩:∃ W,W=qH v1 (w.heap.size+1+1) 1 [(some (f,0),ron,ron)]:=⟨_,rfl⟩;have A2:M.heap[w.heap.size]?=some (.cells #[(m,stn,q),(k,ron,o),(l,sen,p)] 132 (0,0)):=by rw[n];exact qe (by omega) _ _ _ L
 have R2:M.heap[w.heap.size+1]?=some (.cells #[True,True,True] 145 (0,0)):=by rw[n];exact qe (by omega) _ _ _ X
 have O2:M.heap[w.heap.size+1+1]?=some (.cells #[(some (d,0),stn,stn),(some (f,0),ron,ron),True] 145 (0,0)):=by rw[n];exact zjN D
 have H2:Below w.heap.size w M:=by rw[n];exact qZ (by omega) _ _ _ T
 have b:M.rowIs d 220 (stn*4) (qv st):=by rw[n];exact qD (by omega) _ _ _ a
 have h:M.rowIs f 228 (ron*4) (qs ro):=by rw[n];exact qD (by omega) _ _ _ c
 have a5:M=(v1.setCell (w.heap.size+1+1,1) (some (f,0),ron,ron)):=by rw[n];rfl
 rw[← a5];clear n a5 L X D T a c;have a:=b;clear b;have c:=h;clear h;refine(zlx l sen p se _ b5 (b2.below H2)).mono ?_;rintro e v2 ⟨g,rfl,a2,j,s⟩;have R:=zb A2 s;have G:=zb R2 s;have E:=zb O2 s;have U:=ze H2 s;have x:=qo a s;have t:=qo c s;have c9:w.heap.size+1+1<g:=by have:=zM O2;omega
 have Z:w.heap.size<=g:=by omega
 clear A2 R2 O2 H2 s a2 a c;have a:=x;clear x;have c:=t;clear t;obtain⟨O,P,b9⟩:=ce3 E;have b0:=zg E 2;obtain⟨y0,y1,y2⟩:=ce3 G;obtain⟨z0,z1,z2⟩:=fe3 G;go_wp2;clear b0 O P b9 z0 y0 z1 y1 z2 y2;obtain⟨B,i⟩:∃ W,W=qH v2 (w.heap.size+1+1) 2 [(some (g,0),sen,sen)]:=⟨_,rfl⟩;have A3:B.heap[w.heap.size]?=some (.cells #[(m,stn,q),(k,ron,o),(l,sen,p)] 132 (0,0)):=by rw[i];exact qe (by omega) _ _ _ R
 have R3:B.heap[w.heap.size+1]?=some (.cells #[True,True,True] 145 (0,0)):=by rw[i];exact qe (by omega) _ _ _ G
 have O3:B.heap[w.heap.size+1+1]?=some (.cells #[(some (d,0),stn,stn),(some (f,0),ron,ron),(some (g,0),sen,sen)] 145 (0,0)):=by rw[i];exact zjO E
 have H3:Below w.heap.size w B:=by rw[i];exact qZ (by omega) _ _ _ U
 have b:B.rowIs d 220 (stn*4) (qv st):=by rw[i];exact qD (by omega) _ _ _ a
 have h:B.rowIs f 228 (ron*4) (qs ro):=by rw[i];exact qD (by omega) _ _ _ c
 have u:B.rowIs g 234 (sen*2) (qL se):=by rw[i];exact qD (by omega) _ _ _ j
 have a6:B=(v2.setCell (w.heap.size+1+1,2) (some (g,0),sen,sen)):=by rw[i];rfl
 rw[← a6];clear i a6 R G E U a c j;have a:=b;clear b;have c:=h;clear h;have j:=u;clear u;obtain⟨F,N⟩:∃ F,F=qH B (w.heap.size+1) 0 [(some (d,0),stn,stn),(some (f,0),ron,ron),(some (g,0),sen,sen)]:=⟨_,rfl⟩;have RF:F.heap[w.heap.size+1]?=some (.cells #[(some (d,0),stn,stn),(some (f,0),ron,ron),(some (g,0),sen,sen)] 145 (0,0)):=by rw[N];exact zjP R3
 have HF:Below w.heap.size w F:=by rw[N];exact qZ (by omega) _ _ _ H3
 have J:F.rowIs d 220 (stn*4) (qv st):=by rw[N];exact qD (by omega) _ _ _ a
 have H:F.rowIs f 228 (ron*4) (qs ro):=by rw[N];exact qD (by omega) _ _ _ c
 have I:F.rowIs g 234 (sen*2) (qL se):=by rw[N];exact qD (by omega) _ _ _ j
 have a7:F=(((B.setCell (w.heap.size+1,0) (some (d,0),stn,stn)).setCell (w.heap.size+1,1) (some (f,0),ron,ron)).setCell (w.heap.size+1,2) (some (g,0),sen,sen)):=by rw[N];rfl
 rw[← a7];clear N a7;obtain⟨z0,z1,z2⟩:=ce3 RF;exact Jj (by simp[results,results95,go_sem,z0,z1,z2]) rfl ⟨d,f,g,rfl,⟨a0,J.lt,J⟩,⟨Y,H.lt,H⟩,⟨Z,I.lt,I⟩,HF⟩
theorem zmZ (g:Option Addr)(stn q:Nat)(st:Nat->Zp)(d:Option Addr)(ron o:Nat)(ro:Nat->qN)(f:Option Addr)(sen p:Nat)(se:Nat->Qe)(c:Option Addr)(m:Nat)(a:Option Addr)(k:Nat)(b:Option Addr)(l:Nat)(w:World)(O:stn<=1048576)(M:ron<=1048576)(N:sen<=1048576)(G:qw w g stn st)(E:qp w d ron ro)(F:qE w f sen se)(t:qw w c stn st)(r:qp w a ron ro)(s:qE w b sen se) :
  Calls prog 124 #[.agg #[(g,stn,q),(d,ron,o),(f,sen,p)],.agg #[(c,stn,m),(a,ron,k),(b,sen,l)]] w λe w'=>e=.returned (.bool true)/\Below w.heap.size w w':=by
 have n:Below _ w ((w.alloc (.cells #[(g,stn,q),(d,ron,o),(f,sen,p)] 145)).alloc (.cells #[(c,stn,m),(a,ron,k),(b,sen,l)] 145)):=zk (zk bZ _) _;have y:=zoQ n;have B:=zoR n;go_enter func124,ntmps124;go_wp2_with fail;generalize (w.alloc _).alloc _=v at n y B ⊢;refine(zjI g _ stn q _ st _ (by omega) (G.below n) (t.below n)).mono ?_
 rintro e v0 ⟨rfl,h⟩;have z:=zb y h;have C:=zb B h;have u:=ze n h;clear y B n h;have H:=za z 1 _ rfl;have J:=za C 1 _ rfl;go_wp2_with fail;clear H J;refine(zjJ d _ ron o _ ro _ (by omega) (E.below u) (r.below u)).mono ?_
 rintro e v1 ⟨rfl,i⟩;have A:=zb z i;have D:=zb C i;have x:=ze u i;clear z C u i;have I:=za A 2 _ rfl;have K:=za D 2 _ rfl;go_wp2_with fail;clear I K;refine(zjL f _ sen p _ se _ (by omega) (F.below x) (s.below x)).mono ?_
 rintro e v2 ⟨rfl,j⟩;have A3:=zb A j;have B3:=zb D j;have L:=ze x j;clear A D x j;go_wp2;go_ret;exact⟨rfl,L⟩
theorem zna (cs:List Value)(x:zY)(L:Int)(w:World)(l:0<=L)(m:L<=1048576)(o:zY.Short x 1000000000000000)(h:zY.Is w cs x) :
  Calls prog 79 #[.agg cs.toArray,L] w λe w'=>∃ r:Int,e=.returned r/\(r=-1∨(0<=r/\r<=L/\zY.Short x 1048576))/\Below w.heap.size w w':=by
 obtain⟨g,k,d,i,f,j,rfl,q,u,n,s,p,t⟩:=h;obtain⟨c,a,b⟩:=o;exact zmX _ _ _ _ _ _ _ _ _ L w l m c a b
theorem znb (cs:List Value)(x:zY)(w:World)(y:zY.Short x 1048576)(h:zY.Is w cs x) :
  Calls prog 95 #[.agg cs.toArray] w λe w'=>∃ cs',e=.returned (.agg cs'.toArray)/\zY.In w' w.heap.size w'.heap.size cs' x/\Below w.heap.size w w':=by
 obtain⟨q,t,o,r,p,s,rfl,g,B,d,z,f,A⟩:=h;obtain⟨c,a,b⟩:=y;refine(zmY _ _ _ _ _ _ _ _ _ _ _ _ w c a b g d f).mono ?_;rintro e w' ⟨k,i,j,v,n,l,m,u⟩;exact⟨_,v,⟨k,i,j,rfl,n,l,m⟩,u⟩
theorem zlz (cs r:List Value)(x:zY)(w:World)(E:zY.Short x 1048576)(h:zY.Is w cs x)(D:zY.Is w r x) :
  Calls prog 124 #[.agg cs.toArray,.agg r.toArray] w λe w'=>e=.returned (.bool true)/\Below w.heap.size w w':=by
 obtain⟨z,C,v,A,y,B,rfl,k,H,i,F,j,G⟩:=h;obtain⟨n,q,l,o,m,p,rfl,c,u,a,s,b,t⟩:=D;obtain⟨g,d,f⟩:=E;exact zmZ _ _ _ _ _ _ _ _ _ _ _ _ _ _ _ _ _ _ w g d f k i j c a b
end
theorem zlA (G:Option Addr)(N c:Nat)(S:Nat->zY)(g:Int)(w:World)(h0:0<=g)(R:g<=1048576)(hN:N<=1000000000000000)(J:ZA N S 1000000000000000)(K:ZG w G N S) :
  Calls prog 39 #[(G,N,c),g] w λe w'=>∃ r:Int,e=.returned r/\(r=-1∨(0<=r/\r<=g/\N<=1048576/\ZA N S 1048576))/\Below w.heap.size w w':=by
 have P:=hI J;have Q:=hI K;clear J K
 by_cases hf:(N:Int)<=g
 ·have H:decide (g - (N:Int)<0)=false:=by simp;omega
  go_enter func39,ntmps39;go_wp2;go_loopw [1,5] (λl i wr=>∃ (k:Nat) (L:Int),k<=N/\i=int i64 k/\l=int i64 L/\0<=L/\L<=g/\ZA k S 1048576/\Below w.heap.size w wr) (λ_ i _=>N - (intOf i).toNat)
  case atStart=>exact⟨0,_,Jq _,rfl,rfl,by omega,by omega,λi T=>by omega,bZ⟩
  case round =>
   obtain⟨k,L,hk,rfl,rfl,M,U,f,a⟩:=hrel;have F:=hI f;clear f H
   by_cases hlt:k<N
   ·obtain⟨C,I,hI⟩:=Q
    obtain⟨b,off,rfl,v⟩:=I k hlt;have h:=hI (hI k hlt);obtain⟨n,s,j,o,m,q,t,f,E,z,B,A,D⟩:=hI k hlt;have d:b<w.heap.size:=Ja w _ (v 0 (by decide))
    have c0:wr.cell? _=some (.slice n _ s):=(a.cell (p:=⟨b,off+_,_⟩) d).trans (by have:=v 0 (by decide);rw[t] at this;exact this)
    have c1:wr.cell? _=some (.slice j _ o):=(a.cell d).trans (by have:=v 1 (by decide);rw[t] at this;exact this)
    have c2:wr.cell? _=some (.slice m _ q):=(a.cell d).trans (by have:=v 2 (by decide);rw[t] at this;exact this)
    have x:Hid (zY.Is wr [(n,(S k).stn,s),(j,(S k).ron,o),(m,(S k).sen,q)] (S k)):=by show zY.Is wr _ _;rw[← t];exact h.below a
    have y:=hI (P k hlt);clear I hI v t h f E z B A D;go_wp2_with fail;refine(zna _ _ L _ M (by omega) y x).mono ?_
    rintro e w2 ⟨r,rfl,hr,u⟩
    rcases hr with rfl|⟨O,r1,V⟩
    ·go_wp2
     go_ret;exact⟨_,rfl,.inl rfl,ze a u⟩
    ·have d1:decide (r<0)=false:=by simpa using O
     go_wp2;go_roundw
     case rel =>
      refine⟨k+1,r,by omega,by go_num,rfl,O,by omega,λi T=>?_,ze a u⟩
      by_cases e:i=k
      ·subst e;exact V
      ·exact F i (by omega)
     case measure=>simp[intOf];omega
   ·obtain rfl:k=N:=by omega
    go_wp2;go_ret;exact⟨_,rfl,.inr ⟨M,U,by omega,F⟩,a⟩
 ·have H:decide (g - (N:Int)<0)=true:=by simp;omega
  go_enter func39,ntmps39;go_wp2;go_ret;exact⟨_,rfl,.inl rfl,bZ⟩
theorem Tryz.infoLoad:(Tryz.prog.info? 145).map (λi=>(i.zero,i.size,i.bytes))=some (some (.agg #[True,True,True]),3,72):=by kernel_rfl
/-- toLoadS: a copy, its lists in new memory behind its own row. -/
theorem zlB (ao:Option Addr)(N T:Nat)(S:Nat->zY)(w:World)(hN:N<=1048576)(hs:ZA N S 1048576)(hz:ZG w ao N S) :
  Calls prog 46 #[(ao,N,T)] w λe w'=>∃ g C,e=.returned (some (g,0),N,N)/\zan w' N w.heap.size w'.heap.size g N S C/\Below w.heap.size w w':=by
 obtain⟨i0,U,Z,a0,a1⟩:=info_parts Tryz.infoLoad;have HS:=hI hs;have HX:=hI hz;clear hs hz;go_enter func46,ntmps46;go_wp2_with (first|(at_make;refine wpList_make_full _ rfl _ _ 35 rfl _ 145 i0 _ 3 underlying35 U Z a0 _ _ _ _ N rfl rfl rfl rfl (by rw[a1];omega) (by unfold maxLen;omega) (Jr _) ?_;intro w1 f l))
 go_loopw [4] (λi wr=>∃ (k:Nat) (C:_),k<=N/\i=int i64 k/\zan wr k w.heap.size wr.heap.size w.heap.size N S C/\Below w.heap.size w wr)
  (λi _=>N - (intOf i).toNat)
 case atStart=>exact⟨0,λ_=>[],Jq _,rfl,⟨(ZP f).congr (λj hj=>(zes (z:=#[_,_,_]) (sz:=3) rfl N j hj).trans (by unfold zZ;rw[zbT _ _ (by omega)])),Jr _,(ZP f).lt,λi U=>by omega⟩,bZ.grown l (Jr _) (by simp)⟩
 case round =>
  obtain⟨k,C,hk,rfl,n,c⟩:=hrel;clear f l
  by_cases hlt:k<N
  ·obtain⟨E,hE,hI⟩:=HX
   obtain⟨b,off,rfl,K⟩:=hE k hlt;have y:=hI (hI k hlt);obtain⟨D,H,A,F,B,G,I,Y,a4,V,a2,X,a3⟩:=hI k hlt;have m:b<w.heap.size:=Ja w _ (K 0 (by decide))
   have c0:wr.cell? _=some (.slice D _ H):=(c.cell (p:=⟨b,off+_,_⟩) m).trans (by have:=K 0 (by decide);rw[I] at this;exact this)
   have c1:wr.cell? _=some (.slice A _ F):=(c.cell m).trans (by have:=K 1 (by decide);rw[I] at this;exact this)
   have c2:wr.cell? _=some (.slice B _ G):=(c.cell m).trans (by have:=K 2 (by decide);rw[I] at this;exact this)
   have Q:Hid (zY.Is wr [(D,(S k).stn,H),(A,(S k).ron,F),(B,(S k).sen,G)] (S k)):=by show zY.Is wr _ _;rw[← I];exact y.below c
   have R:=hI (HS k hlt);have o:Hid _:=n;clear hE hI K I y n Y a4 V a2 X a3;go_wp2_with fail;refine(znb _ _ _ R Q).mono ?_;rintro e O ⟨cs',rfl,L,s⟩;have P:=hI L;obtain⟨v,t,u,rfl,_,_,_⟩:=L;unfold ZY;have d:=(o.below s).wide (Jr _) s.size;have a5:=o.ghi;clear c0 c1 c2;have o0:=d.row.cell (i:=k*3) (by omega)
   have f0:=d.row.frozen (k*3);have o1:=d.row.cell (i:=k*3+1) (by omega)
   have f1:=d.row.frozen (k*3+1);have o2:=d.row.cell (i:=k*3+2) (by omega)
   have f2:=d.row.frozen (k*3+2);have r:=hI d;clear d;go_wp2;go_roundw
   case rel =>
    clear o0 f0 o1 f1 o2 f2;obtain⟨W,J⟩:∃ W,W=qH O w.heap.size (k*3) [(some (v,0),(S k).stn,(S k).stn),(some (t,0),(S k).ron,(S k).ron),(some (u,0),(S k).sen,(S k).sen)]:=⟨_,rfl⟩;have hC:W=(((O.setCell (w.heap.size,k*3) (some (v,0),(S k).stn,(S k).stn)).setCell (w.heap.size,k*3+1) (some (t,0),(S k).ron,(S k).ron)).setCell (w.heap.size,k*3+2) (some (u,0),(S k).sen,(S k).sen)):=by rw[J];rfl
    rw[← hC];clear hC;have M:zx O W (λx=>x=w.heap.size):=by rw[J];exact zdf (S:=λx=>x=w.heap.size) rfl _ _ _ (zx.refl _ _)
    have q:W.heap.size=O.heap.size:=by rw[J,zdg]
    refine⟨k+1,λi=>if i=k then [(some (v,0),(S k).stn,(S k).stn),(some (t,0),(S k).ron,(S k).ron),(some (u,0),(S k).sen,(S k).sen)] else C i,by omega,by go_num,⟨?_,Jr _,by rw[q];exact r.ghi,λi U=>?_⟩,by rw[J];exact qZ (Jr _) _ _ _ (ze c s)⟩
    ·rw[J]
     refine rec_set r.row rfl (by decide) (λi e=>?_) ?_
     ·rw[QB _ _ _ _ e];unfold zbJ;by_cases h:i<k
      ·rw[Jf h,Jf h];exact Je e
      ·rw[Je h,Je h]
     ·rw[qr _ _ (Nat.lt_succ_self k)];exact Jf rfl
    ·rw[q]
     by_cases e:i=k
     ·subst e
      rw[Jf rfl];exact(P.wide (by omega) (Jr _)).kept M (λb h=>by QW;omega)
     ·rw[Je e]
      exact(r.each i (by omega)).kept M (λb h=>by QW;omega)
   case measure=>simp[intOf];omega
  ·obtain rfl:k=N:=by omega
   go_wp2;go_ret;exact⟨_,C,rfl,n,c⟩
/-- eqLoadS at two lists that are one. -/
theorem zjQ (Q bo:Option Addr)(N c1 c2:Nat)(S:Nat->zY)(w:World)(hN:N<=1048576)(hs:ZA N S 1048576)(hx:ZG w Q N S)(hy:ZG w bo N S) :
  Calls prog 58 #[(Q,N,c1),(bo,N,c2)] w λe w'=>e=.returned (.bool true)/\Below w.heap.size w w':=by
 have HS:=hI hs;have HX:=hI hx;have HY:=hI hy;clear hs hx hy;go_enter func58,ntmps58;go_wp2;go_loopw [5] (λi wr=>∃ k,k<=N/\i=int i64 k/\Below w.heap.size w wr) (λi _=>N - (intOf i).toNat)
 case atStart=>exact⟨0,Jq _,rfl,bZ⟩
 case round =>
  obtain⟨k,hk,rfl,a⟩:=hrel
  by_cases hlt:k<N
  ·obtain⟨C,Z,hI⟩:=HX
   obtain⟨D,hD,F⟩:=HY;obtain⟨b,off,rfl,j⟩:=Z k hlt;obtain⟨V,q,rfl,l⟩:=hD k hlt;have c:=hI (hI k hlt);have d:=hI (F k hlt);obtain⟨z,E,x,A,y,B,f,J,P,H,M,I,O⟩:=hI k hlt;obtain⟨U,Y,R,W,T,X,h,o,t,m,r,n,s⟩:=F k hlt;have K:b<w.heap.size:=Ja w _ (j 0 (by decide))
   have L:V<w.heap.size:=Ja w _ (l 0 (by decide))
   have i1:(0:Int)<=(k:Int):=by omega
   have i2:(k:Int)<(N:Int):=by omega
   have z0:∀ g:zn wr,g.val.cell? _=some (.slice z _ E):=λg=>((a.trans (g.bel.mono a.size)).cell (p:=⟨b,off+_,_⟩) K).trans (by have:=j 0 (by decide);rw[f] at this;exact this)
   have y0:∀ g:zn wr,g.val.cell? _=some (.slice _ _ _):=λg=>((a.trans (g.bel.mono a.size)).cell (p:=⟨V,q+_,_⟩) L).trans (by have:=l 0 (by decide);rw[h] at this;exact this)
   have z1:∀ g:zn wr,g.val.cell? _=some (.slice x _ A):=λg=>((a.trans (g.bel.mono a.size)).cell K).trans (by have:=j 1 (by decide);rw[f] at this;exact this)
   have y1:∀ g:zn wr,g.val.cell? _=some (.slice _ _ _):=λg=>((a.trans (g.bel.mono a.size)).cell L).trans (by have:=l 1 (by decide);rw[h] at this;exact this)
   have z2:∀ g:zn wr,g.val.cell? _=some (.slice y _ B):=λg=>((a.trans (g.bel.mono a.size)).cell K).trans (by have:=j 2 (by decide);rw[f] at this;exact this)
   have y2:∀ g:zn wr,g.val.cell? _=some (.slice _ _ _):=λg=>((a.trans (g.bel.mono a.size)).cell L).trans (by have:=l 2 (by decide);rw[h] at this;exact this)
   have ZI:Hid (∀ g:zn wr,zY.Is _ [_,_,_] _):=λg=>by rw[← f];exact(c.below a).below g.bel
   have ZJ:Hid (∀ g:zn wr,zY.Is _ [_,_,_] _):=λg=>by rw[← h];exact(d.below a).below g.bel
   have u:=hI (HS k hlt);clear Z hI hD F j l f h c d J P o t H M m r I O n s;go_upto_region 6 with fail;refine zh (by kernel_rfl) (by kernel_rfl) ?_
   repeat(first|go_big_quiet_skip|(go_big_quiet_want;go_big_quiet_op;first|go_big_quiet_on|(apply Jg;refine⟨λg=>?_,?_⟩;(focus(first|(go_at_call 124;refine zf (v:=.bool true) ((zlz _ _ _ _ u (ZI g) (ZJ g)).mono ?_);rintro e w2 ⟨rfl,G⟩;exact⟨rfl,G⟩)));go_big_quiet_on)))
   refine Jl ?_;rintro _ ⟨g,rfl⟩;clear z0 y0 z1 y1 z2 y2;go_wp2;go_roundw
   case rel=>exact⟨k+1,by omega,by go_num,ze a g.bel⟩
   case measure=>simp[intOf];omega
  ·go_wp2
   go_ret;exact⟨rfl,a⟩
theorem Tryz.infoBooking:(Tryz.prog.info? 150).map (λi=>(i.zero,i.size,i.bytes))=some (some (.agg #[int i64 0,int i64 0,.string ⟨#[]⟩,.slice none 0 0,int i64 0,int i64 0,int i64 0,int i64 0,.bool false,int i64 0,int i64 0,int i64 0,int i64 0]),13,128):=by kernel_rfl
theorem Tryz.infoInt:(Tryz.prog.info? 3).map (λi=>(i.zero,i.size,i.bytes))=some (some (int i64 0),1,8):=by kernel_rfl
theorem zgj (g bo:Option Addr)(n c1 c2:Nat)(f:Nat->Int)(w:World)(hn:n<=1048576)(m:zT w g n f)(o:zT w bo n f) :
  Calls prog 26 #[(g,n,c1),(bo,n,c2)] w λe w'=>e=.returned (.bool true)/\Below w.heap.size w w':=by
 go_enter func26,ntmps26;go_wp2;go_loopw [5] (λi wr=>∃ k,k<=n/\i=int i64 k/\Below w.heap.size w wr) (λi _=>n - (intOf i).toNat)
 case atStart=>exact⟨0,Jq _,rfl,bZ⟩
 case round =>
  obtain⟨k,hk,rfl,a⟩:=hrel
  by_cases hlt:k<n
  ·obtain⟨b,off,rfl,c⟩:=m k (by omega)
   obtain⟨b2,h,rfl,d⟩:=o k (by omega)
   have j:=(a.cell (Ja w _ c)).trans c;have l:=(a.cell (Ja w _ d)).trans d;clear c d;go_wp2;go_quiet (fail);go_wp2;go_roundw
   case rel=>exact⟨k+1,by omega,by go_num,dN a _⟩
   case measure=>simp[intOf];omega
  ·go_wp2
   go_ret;exact⟨rfl,a⟩
end Go.Proofs.YtmdnjgihooflfaaGreatDoor
