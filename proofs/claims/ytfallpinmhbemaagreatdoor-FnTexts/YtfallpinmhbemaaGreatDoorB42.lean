/-
  OWN TEXT: ReadSI, SameN, LawTexts, Views, ViewCode.
-/
import Derived.Test.YtfallpinmhbemaaGreatDoorRows
import Derived.ProofKit
import Derived.OpenShut
import Derived.ChangeOld
import Derived.SizedLaws
import Derived.Deep.Slices
import Derived.Deep.Strs
import Derived.Lib.SmallJoins
import Derived.Test.YtfallpinmhbemaaGreatDoorB41
namespace Go.Proofs.YtfallpinmhbemaaGreatDoor
open Go.RowKit
open Go.Value (int)
open Go.IntKind (i64)
set_option maxHeartbeats 64000000
set_option maxRecDepth 100000
structure SOut (s:ByteArray)(w w':World)(y:Sail)(vl vc:Value)(ok:Bool):Prop where
 ans:AnsS s y ok
 la:w'.ownsRow w.heap.size 106 2 vl y.la.n (zG y.la)
 ca:w'.ownsRow w.heap.size 110 2 vc y.ca.n (zG y.ca)
 bel:Below w.heap.size w w'
def SPost (s:ByteArray)(w:World)(e:Ending)(w':World):Prop:=∃ y vl vc ok,e=.returned (.tuple #[.agg #[int i64 y.id,.string y.fr,.string y.dst,int i64 y.dep,int i64 y.arr,vl,vc,int i64 y.most],.bool ok])/\SOut s w w' y vl vc ok
theorem ziG {p:UInt8}{s q:ByteArray}{l:List ByteArray}(h:Q2 p s l)(c:q ∈ l.tail):q.size+1<=s.size:=by
 cases l with
 | nil=>simp at c
 | cons a r =>
  cases r with
  | nil=>simp at c
  | cons b r =>
   have d:=h.list.2.1;simp only[List.map_cons] at d;rw[zaN] at d;have h2:=zfv p (b.data.toList :: r.map (·.data.toList)) q.data.toList (by
    have c:q ∈ b :: r:=c;rw[← List.map_cons (f:=fun x:ByteArray=>x.data.toList)]
    exact List.mem_map.2 ⟨q,c,rfl⟩)
   have e:=congrArg List.length d;simp only[List.length_append,List.length_cons] at e;have e1:q.data.toList.length=q.size:=Array.length_toList;have e2:s.data.toList.length=s.size:=Array.length_toList
   omega
theorem prd_few {s:ByteArray}{l m:List ByteArray}{i:Nat}(h:Q2 32 s l)(hs:s.size<=1048576)(a:PRd (wd l (i+1)) m):m.length<=1048576:=by
 have h1:=a.1;have h2:(wd l (i+1)).size+1<=1048576:=by
  unfold wd;rw[List.getD_eq_getElem?_getD]
  cases hq:l[i+1]? with
  | none=>show 0+1<=1048576;omega
  | some q =>
   have:q ∈ l.tail:=by
    refine List.mem_of_getElem? (i:=i) ?_;rw[List.getElem?_tail];exact hq
   have:=ziG h this
   show q.size+1<=1048576
   omega
 omega
theorem zfA (s:ByteArray)(w:World)(hs:s.size<=1048576)(hP:Ze w)(hL:zaT w) :
  Calls Tryz.prog 12 #[.string s] w fun e w'=>SPost s w e w':=by
 have HT:Hid (Ze w/\zaT w):=⟨hP,hL⟩;have b8:4<w.heap.size:=by
  have h:=hP;unfold Ze Lib.TabIs World.var? at h;rw[Tryz.gPow] at h;simp only[Option.bind_some] at h
  rcases Nat.lt_or_ge 4 w.heap.size with h'|h'
  ·exact h'
  ·rw[Array.getElem?_eq_none h'] at h;simp at h
 clear hP hL;have hr:=heap_alloc_new w (.cells #[int i64 0,.string ⟨#[]⟩,.string ⟨#[]⟩,int i64 0,int i64 0,.slice none 0 0,.slice none 0 0,int i64 0] 37);have B:Below w.heap.size w (w.alloc (.cells #[int i64 0,.string ⟨#[]⟩,.string ⟨#[]⟩,int i64 0,int i64 0,.slice none 0 0,.slice none 0 0,int i64 0] 37)):=zr bZ _;go_enter Tryz.func12,Tryz.ntmps12;go_upto_region 1 with fail;generalize w.alloc (.cells #[int i64 0,.string ⟨#[]⟩,.string ⟨#[]⟩,int i64 0,int i64 0,.slice none 0 0,.slice none 0 0,int i64 0] 37)=W at hr B ⊢;have c6:=B.size;go_wp2_with fail;refine(zdB s _ hs).mono ?_;rintro e w1 ⟨b,l,rfl,b7,c,C⟩;have m:=zj B C;have X:=zc hr C;have HL:Hid (∀ q,q ∈ l->q.size<=1048576):=fun q hq=>by have:=zdd c.out.2.1 q hq;omega
 have c3:=C.size;go_wp2_with fail;refine(zfz b l _ HL.out c.out.1 (HT.out.1.below m) (by omega)).mono ?_
 rintro e t ⟨x,rfl,F,E,a,D⟩;have Z:¬ w.heap.size=b:=by have:=zZ hr;omega
 have G:=D.blk X Z;have U:Below w.heap.size w t:=zA.below m m.size D (fun k e=>by have e:k=b:=e;omega)
 have b9:x.la.length<=1048576:=prd_few (i:=6) c.out.2.1 hs a.out.2.1;have c0:x.lc.length<=1048576:=prd_few (i:=7) c.out.2.1 hs a.out.2.2;have P:Hid (x.fr.size<=1000000000000000/\x.dst.size<=1000000000000000):=by
  have e:=a.out.1;have e1:x.fr=wd l 2:=congrArg Sail.fr e;have e2:x.dst=wd l 3:=congrArg Sail.dst e;have w1:=zhC HL.out 2;have t:=zhC HL.out 3
  show x.fr.size<=_/\x.dst.size<=_
  rw[e1,e2]
  omega
 have a9:Hid (¬ (zU x.d/\QS x.d=s)->AnsS s Sail.zero false):=fun hn=>ans_not c.out.2.1 a.out.2.1 a.out.2.2 (by rw[← a.out.1];exact hn)
 have Q:Hid (t.ownsRow w.heap.size 106 2 x.vl x.la.length (zG (prs x.la))/\t.ownsRow w.heap.size 110 2 x.vc x.lc.length (zG (prs x.lc))):=⟨zE F m.size,zE E m.size⟩;obtain⟨d,g,I,a0,a5,a7⟩:=zt F;obtain⟨f,j,J,a3,a6,a8⟩:=zt E;have HV:Hid (x.vl=.slice d x.la.length g/\x.vc=.slice f x.lc.length j):=⟨I,J⟩;have S:x.cs=#[int i64 x.id,.string x.fr,.string x.dst,int i64 x.dep,int i64 x.arr,.slice d x.la.length g,.slice f x.lc.length j,int i64 x.most]:=by unfold SRc.cs;rw[I,J]
 rw[S];clear hr B C m X c3 c HL a D Z F E I J S b7 b8 a0 a5 a7 a3 a6 a8;have b3:=heap_alloc_new t (.cells #[int i64 x.id,.string x.fr,.string x.dst,int i64 x.dep,int i64 x.arr,.slice d x.la.length g,.slice f x.lc.length j,int i64 x.most] 37);have M:Below t.heap.size t (t.alloc (.cells #[int i64 x.id,.string x.fr,.string x.dst,int i64 x.dep,int i64 x.arr,.slice d x.la.length g,.slice f x.lc.length j,int i64 x.most] 37)):=zr bZ _;go_upto_region 2 with fail;generalize t.alloc (.cells #[int i64 x.id,.string x.fr,.string x.dst,int i64 x.dep,int i64 x.arr,.slice d x.la.length g,.slice f x.lc.length j,int i64 x.most] 37)=N at b3 M ⊢;have z:=zj U M;have Y:=zc G M;have r:Hid (N.ownsRow w.heap.size 106 2 (.slice d x.la.length g) x.la.length (zG (prs x.la))/\N.ownsRow w.heap.size 110 2 (.slice f x.lc.length j) x.lc.length (zG (prs x.lc))):=by
  have h:=Q.out;rw[HV.out.1,HV.out.2] at h;exact⟨zm M h.1,zm M h.2⟩
 have c4:=zZ G;obtain⟨y0,y1,y2,y3,y4,y5,y6,y7⟩:=ce8 b3;have ct:Calls Tryz.prog 10 #[.agg #[int i64 x.id,.string x.fr,.string x.dst,int i64 x.dep,int i64 x.arr,.slice d x.la.length g,.slice f x.lc.length j,int i64 x.most]] N fun e w'=>e=.returned (.tuple #[.string (zfp x.d),.bool (zdv x.d)])/\Below N.heap.size N w':=zaM x.d d f g j N P.out.1 P.out.2 b9 c0 (pairs_of_own (p:=prs x.la) r.out.1) (pairs_of_own (p:=prs x.lc) r.out.2) (HT.out.1.below z) (HT.out.2.below z)
 generalize V:zfp x.d=T at ct;generalize hH:zdv x.d=H at ct;have y:Hid (zfp x.d=T/\zdv x.d=H):=⟨V,hH⟩;clear V hH;go_wp2_with fail;refine ct.mono ?_;clear ct;rintro e w4 ⟨rfl,n⟩;have A:=zj z n;have o:=zc Y n;have b4:=zc b3 n;have u:Hid (w4.ownsRow w.heap.size 106 2 (.slice d x.la.length g) x.la.length (zG (prs x.la))/\w4.ownsRow w.heap.size 110 2 (.slice f x.lc.length j) x.lc.length (zG (prs x.lc))):=⟨zm n r.out.1,zm n r.out.2⟩;clear y0 y1 y2 y3 y4 y5 y6 y7 U z G Y b3 M n Q r;have c5:¬ w.heap.size=t.heap.size:=by omega
 obtain⟨s0,s1,s2,s3,s4,s5,s6,s7⟩:=ce8 o;obtain⟨g0,g1,g2,g3,g4,g5,g6,g7⟩:=fe8 o
 by_cases hok:H=true/\T=s
 case neg =>
  have b6:Hid (AnsS s Sail.zero false):=a9.out (fun h=>hok (by
   have O:=zaw h.1;rw[y.out.1,y.out.2] at O;exact⟨O.2,by rw[O.1];exact h.2⟩))
  have rF:=box_8 o (int i64 0) (.string ⟨#[]⟩) (.string ⟨#[]⟩) (int i64 0) (int i64 0) (.slice none 0 0) (.slice none 0 0) (int i64 0);have L:=keep_8 w4 w.heap.size (int i64 0) (.string ⟨#[]⟩) (.string ⟨#[]⟩) (int i64 0) (int i64 0) (.slice none 0 0) (.slice none 0 0) (int i64 0);have b0:Hid (SOut s w _ Sail.zero (.slice none 0 0) (.slice none 0 0) false):=⟨b6.out,World.ownsRow_nil _ _ _ _,World.ownsRow_nil _ _ _ _,zA.below A A.size L (fun k e=>by have e:k=w.heap.size:=e;omega)⟩
  clear L;go_upto_region 3 with fail;go_cut [21] (fun v wx=>v=.bool true/\wx=w4)
  case first =>
   cases H with
   | false =>
    go_wp2;go_meet;exact⟨rfl,rfl⟩
   | true =>
    have V:T≠s:=fun e=>hok ⟨rfl,e⟩
    have et:(T.toList == s.toList)=false:=zaz.2 V;clear V hok;go_wp2;go_meet;exact⟨rfl,rfl⟩
  case rest =>
  obtain⟨rfl,K⟩:=hcut;have K:=K.symm;subst K;clear hok;go_wp2;obtain⟨t0,t1,t2,t3,t4,t5,t6,t7⟩:=ce8 rF;refine bodyPost_ret (v:=.tuple #[.agg #[int i64 0,.string ⟨#[]⟩,.string ⟨#[]⟩,int i64 0,int i64 0,.slice none 0 0,.slice none 0 0,int i64 0],.bool false]) (by simp[results,Tryz.results12,go_sem,t0,t1,t2,t3,t4,t5,t6,t7]) rfl ?_
  exact⟨Sail.zero,_,_,false,rfl,b0.out⟩
 case pos =>
  obtain⟨rfl,rfl⟩:=hok;have R:Hid (AnsS T x.d true):=by
   have O:zU x.d:=(zdw x.d).1 y.out.2;have h2:=(zaw O).1;rw[y.out.1] at h2;exact .inl ⟨rfl,O,h2.symm⟩
  have et:(T.toList == T.toList)=true:=by simp
  obtain⟨p0,p1,p2,M,p4,p5,p6,p7⟩:=ce8 b4;have rF:=box_8 o (int i64 x.id) (.string x.fr) (.string x.dst) (int i64 x.dep) (int i64 x.arr) (.slice d x.la.length g) (.slice f x.lc.length j) (int i64 x.most);have L:=keep_8 w4 w.heap.size (int i64 x.id) (.string x.fr) (.string x.dst) (int i64 x.dep) (int i64 x.arr) (.slice d x.la.length g) (.slice f x.lc.length j) (int i64 x.most);have b5:Hid (SOut T w _ x.d (.slice d x.la.length g) (.slice f x.lc.length j) true):=⟨R.out,L.own u.out.1 (Zt u.out.1 o (by decide)),L.own u.out.2 (Zt u.out.2 o (by decide)),zA.below A A.size L (fun k e=>by have e:k=w.heap.size:=e;omega)⟩
  clear L;go_wp2;obtain⟨t0,t1,t2,t3,t4,t5,t6,t7⟩:=ce8 rF;refine bodyPost_ret (v:=.tuple #[.agg #[int i64 x.id,.string x.fr,.string x.dst,int i64 x.dep,int i64 x.arr,.slice d x.la.length g,.slice f x.lc.length j,int i64 x.most],.bool true]) (by simp[results,Tryz.results12,go_sem,t0,t1,t2,t3,t4,t5,t6,t7]) rfl ?_
  exact⟨x.d,_,_,true,rfl,b5.out⟩
theorem zfB (h j:Option Addr)(n l m:Nat)(f:Nat->Int)(w:World)(hn:n<=1048576)(q:IntsAt w h n f)(r:IntsAt w j n f) :
  Calls Tryz.prog 8 #[.slice h n l,.slice j n m] w fun e w'=>e=.returned (.bool true)/\Below w.heap.size w w':=by
 go_enter Tryz.func8,Tryz.ntmps8;go_wp2;go_loopw [5,13] (fun _ i g=>∃ k:Nat,k<=n/\i=int i64 k/\Below w.heap.size w g) (fun _ i _=>n - (intOf i).toNat)
 case atStart=>exact⟨0,Nat.zero_le _,rfl,bZ⟩
 case round =>
  obtain⟨k,hk,rfl,a⟩:=hrel
  by_cases hlt:k<n
  ·obtain⟨b,off,rfl,d⟩:=q k (by omega)
   obtain⟨b2,c,rfl,hd⟩:=r k (by omega)
   have o:g.cell? ⟨b,off+k,none⟩=some (int i64 (f k)):=(a.cell (World.block_lt_of_cell? w _ d)).trans d;have p:g.cell? ⟨b2,c+k,none⟩=some (int i64 (f k)):=(a.cell (World.block_lt_of_cell? w _ hd)).trans hd;clear d hd;go_wp2;go_quiet (fail);go_wp2;go_roundw
   case rel=>exact⟨k+1,by omega,by go_num,below_drewN a _⟩
   case measure=>simp[intOf];omega
  ·go_wp2
   go_ret;exact⟨rfl,a⟩
def TabsT (w:World):Prop:=Qb w/\Ze w/\Qc w/\zaT w
theorem TabsT.below {w w':World}(h:TabsT w)(a:Below w.heap.size w w'):TabsT w':=⟨h.1.below a,h.2.1.below a,h.2.2.1.below a,h.2.2.2.below a⟩
theorem lawTexts (ao:Option Addr)(n c:Nat)(bo:Option Addr)(m d:Nat)(w:World)(hn:n<=1000000000000000)(hx:BytesAt w ao n)(hm:m<=1000000000000000)(hy:BytesAt w bo m)(hT:TabsT w) :
  Calls Tryz.prog 3 #[.slice ao n c,.slice bo m d] w fun e w'=>e=.returned (.bool true)/\Below w.heap.size w w':=by
 have HX:=hI hx;have HY:=hI hy;have HT:=hI hT;clear hx hy hT
 by_cases hsz:n+m<=1048576
 case neg =>
  have hd:decide ((1048576:Int)<(n:Int)+(m:Int))=true:=by simp;omega
  go_enter Tryz.func3,Tryz.ntmps3;go_wp2;go_ret;exact⟨rfl,bZ⟩
 have hd:decide ((1048576:Int)<(n:Int)+(m:Int))=false:=by simp;omega
 go_enter Tryz.func3,Tryz.ntmps3;go_wp2_with fail;refine(zdP ao n c w (by omega) HX.out).mono ?_
 rintro e W ⟨⟨y,C,E,rfl,f6,f7,U⟩,F⟩;have a3:ZV y (.slice C y.lgn E)=#[int i64 y.kind,.string y.own,int i64 y.name,.slice C y.lgn E,int i64 y.pe,int i64 y.len,int i64 y.hei,int i64 y.cl,.bool y.all,int i64 y.be,int i64 y.unt,int i64 y.now]:=rfl;rw[a3];clear a3;have r:Below W.heap.size W (W.alloc (.cells #[int i64 y.kind,.string y.own,int i64 y.name,.slice C y.lgn E,int i64 y.pe,int i64 y.len,int i64 y.hei,int i64 y.cl,.bool y.all,int i64 y.be,int i64 y.unt,int i64 y.now] 27)):=zr bZ _;have o:=heap_alloc_new W (.cells #[int i64 y.kind,.string y.own,int i64 y.name,.slice C y.lgn E,int i64 y.pe,int i64 y.len,int i64 y.hei,int i64 y.cl,.bool y.all,int i64 y.be,int i64 y.unt,int i64 y.now] 27);have h:Hid (OpD.Is (W.alloc (.cells #[int i64 y.kind,.string y.own,int i64 y.name,.slice C y.lgn E,int i64 y.pe,int i64 y.len,int i64 y.hei,int i64 y.cl,.bool y.all,int i64 y.be,int i64 y.unt,int i64 y.now] 27)) [int i64 y.kind,.string y.own,int i64 y.name,.slice C y.lgn E,int i64 y.pe,int i64 y.len,int i64 y.hei,int i64 y.cl,.bool y.all,int i64 y.be,int i64 y.unt,int i64 y.now] y):=⟨C,E,rfl,(own_ints U.out).below r,own_ok U.out⟩;have i:=hI (zj F r);clear F r U;go_wp2_with fail;generalize W.alloc (.cells #[int i64 y.kind,.string y.own,int i64 y.name,.slice C y.lgn E,int i64 y.pe,int i64 y.len,int i64 y.hei,int i64 y.cl,.bool y.all,int i64 y.be,int i64 y.unt,int i64 y.now] 27)=v1 at o h i ⊢;generalize W.heap.size=pb at o ⊢;have a:=hI (HT.out.below i.out);refine(zcK [int i64 y.kind,.string y.own,int i64 y.name,.slice C y.lgn E,int i64 y.pe,int i64 y.len,int i64 y.hei,int i64 y.cl,.bool y.all,int i64 y.be,int i64 y.unt,int i64 y.now] y v1 (by omega) h.out (by omega) a.out.2.1 a.out.1 a.out.2.2.1).mono ?_
 rintro e w2 ⟨rfl,g⟩;replace o:=zc o g;replace h:=hI (h.out.below g);replace i:=hI (zj i.out g);replace a:=hI (a.out.below g);clear g;obtain⟨k0,k1,k2,k3,k4,k5,k6,k7,k8,k9,b7,b8⟩:=ce12 o;go_wp2_with fail;refine(zgq [int i64 y.kind,.string y.own,int i64 y.name,.slice C y.lgn E,int i64 y.pe,int i64 y.len,int i64 y.hei,int i64 y.cl,.bool y.all,int i64 y.be,int i64 y.unt,int i64 y.now] y w2 (by omega) h.out (by omega)).mono ?_
 rintro e w3 ⟨rfl,l⟩;clear k0 k1 k2 k3 k4 k5 k6 k7 k8 k9 b7 b8;replace o:=zc o l;replace h:=hI (h.out.below l);replace i:=hI (zj i.out l);replace a:=hI (a.out.below l);clear l;have HH:Hid ((qn y/\zbj y=opT y/\ziv y=true)∨(zbj y=⟨#[]⟩/\ziv y=false)):=by
  by_cases D:qn y
  ·exact .inl ⟨D,zav D⟩
  ·exact .inr (zau D)
 generalize zbj y=tx at HH ⊢;generalize ziv y=th at HH ⊢;go_upto_if 47 with fail;go_cut [] (fun wx=>Hid (Below w.heap.size w wx))
 case first =>
  rcases HH.out with⟨D,t,u⟩|⟨t,u⟩
  ·subst t u
   have HG:=hI D;clear D HH;have V:(opT y).size<=1048576:=by have:=zgo HG.out;omega
   go_wp2_with fail;refine(zgC (opT y) w3 V a.out.2.1 a.out.1 a.out.2.2.1).mono ?_;rintro e Y ⟨z,ok,rfl,f⟩;obtain⟨rfl,b6⟩:=read_op f HG.out;have K:=f.bel;have L:=f.own;clear f;obtain⟨zk,zo,zn,zv,zL,⟨p1,p2,p3,p4,p5,p6⟩,zu,zw⟩:=z;obtain⟨t,u,e3,e4,e5,e6,e7,e8⟩:=b6;dsimp only[OpR.d,OpD.p] at t u e3 e4 e5 e6 e7 e8;simp only[Zf.mk.injEq] at e6;obtain⟨rfl,rfl,rfl,rfl,rfl,rfl⟩:=e6;subst t u e3 e7 e8;dsimp only at L;obtain⟨R,cv,rfl,_,_,_⟩:=zt L;have HZ:Hid (IntsAt Y R y.lgn y.lg):=fun j hj=>by
    obtain⟨b,off,ea,hc⟩:=own_legs rfl L j (by omega)
    exact⟨b,off,ea,by rw[hc,e5 j hj]⟩
   rw[e4];have A:OpR.cs ⟨y.kind,y.own,y.name,.slice R y.lgn cv,zL,⟨y.pe,y.len,y.hei,y.cl,y.all,y.be⟩,y.unt,y.now⟩=#[int i64 y.kind,.string y.own,int i64 y.name,.slice R y.lgn cv,int i64 y.pe,int i64 y.len,int i64 y.hei,int i64 y.cl,.bool y.all,int i64 y.be,int i64 y.unt,int i64 y.now]:=rfl;rw[A];clear A e4 e5 L;replace o:=zc o K;replace i:=hI (zj i.out K);replace h:=hI (h.out.below K);clear K;have k:Below Y.heap.size Y (Y.alloc (.cells #[int i64 y.kind,.string y.own,int i64 y.name,.slice R y.lgn cv,int i64 y.pe,int i64 y.len,int i64 y.hei,int i64 y.cl,.bool y.all,int i64 y.be,int i64 y.unt,int i64 y.now] 27)):=zr bZ _;have bZ:=heap_alloc_new Y (.cells #[int i64 y.kind,.string y.own,int i64 y.name,.slice R y.lgn cv,int i64 y.pe,int i64 y.len,int i64 y.hei,int i64 y.cl,.bool y.all,int i64 y.be,int i64 y.unt,int i64 y.now] 27);have Z:=zc o k;go_upto_region 10 with fail;generalize Y.alloc (.cells #[int i64 y.kind,.string y.own,int i64 y.name,.slice R y.lgn cv,int i64 y.pe,int i64 y.len,int i64 y.hei,int i64 y.cl,.bool y.all,int i64 y.be,int i64 y.unt,int i64 y.now] 27)=v5 at k bZ Z ⊢;generalize Y.heap.size=zb at bZ ⊢;obtain⟨f1,f2,A,a1,_⟩:=h.out;have a5:Hid (IntsAt v5 C y.lgn y.lg):=by
    simp only[List.cons.injEq,Value.slice.injEq] at A;obtain⟨_,_,_,⟨rfl,_⟩,_⟩:=A;exact a1.below k
   have a6:=hI (HZ.out.below k);clear A a1 HZ h;have g2:=za bZ 0 _ rfl;have f8:=za Z 0 _ rfl;have g3:=za bZ 1 _ rfl;have f9:=za Z 1 _ rfl;have g4:=za bZ 2 _ rfl;have g0:=za Z 2 _ rfl;have g5:=za bZ 3 _ rfl;have g1:=za Z 3 _ rfl;go_wp2_with (first|(go_at_call 8;refine(zfB R C y.lgn cv E y.lg _ (by omega) a6.out a5.out).mono ?_;rintro e w6 ⟨rfl,v⟩;have q:=zc bZ v;have p:=zc Z v;have N:=hI (zj (zj i.out k) v);have d7:=za q 4 _ rfl;have c7:=za p 4 _ rfl;have d8:=za q 5 _ rfl;have c8:=za p 5 _ rfl;have d9:=za q 6 _ rfl;have c9:=za p 6 _ rfl;have e0:=za q 7 _ rfl;have d0:=za p 7 _ rfl;have e9:=za q 8 _ rfl;have d5:=za p 8 _ rfl;have f0:=za q 9 _ rfl;have d6:=za p 9 _ rfl;have c3:=za q 10 _ rfl;have b9:=za p 10 _ rfl;have c4:=za q 11 _ rfl;have c0:=za p 11 _ rfl))
   go_meet;exact N
  ·subst t u
   go_wp2;go_meet;exact i
 case rest =>
  have O:=hI hcut.out;clear hcut i a h HH o;go_wp2_with fail;refine(zcT bo m d wc (by omega) (HY.out.below O.out)).mono ?_
  rintro e s ⟨⟨x,lo,J,S,T,rfl,I⟩,F⟩;have r:Below s.heap.size s (s.alloc (.cells #[int i64 x.id,.string x.fr,.string x.dst,int i64 x.dep,int i64 x.arr,.slice lo x.la.n S,.slice J x.ca.n T,int i64 x.most] 37)):=zr bZ _;have o:=heap_alloc_new s (.cells #[int i64 x.id,.string x.fr,.string x.dst,int i64 x.dep,int i64 x.arr,.slice lo x.la.n S,.slice J x.ca.n T,int i64 x.most] 37);have h:Hid (qd (s.alloc (.cells #[int i64 x.id,.string x.fr,.string x.dst,int i64 x.dep,int i64 x.arr,.slice lo x.la.n S,.slice J x.ca.n T,int i64 x.most] 37)) lo x.la/\qd (s.alloc (.cells #[int i64 x.id,.string x.fr,.string x.dst,int i64 x.dep,int i64 x.arr,.slice lo x.la.n S,.slice J x.ca.n T,int i64 x.most] 37)) J x.ca):=⟨(pairs_of_own I.out.1).below r,(pairs_of_own I.out.2.1).below r⟩;have H:=hI I.out.2.2;have i:=hI (zj (zj O.out F) r);clear F r I O;go_wp2_with fail;generalize s.alloc (.cells #[int i64 x.id,.string x.fr,.string x.dst,int i64 x.dep,int i64 x.arr,.slice lo x.la.n S,.slice J x.ca.n T,int i64 x.most] 37)=c5 at o h i ⊢;generalize s.heap.size=sb at o ⊢;have a:=hI (HT.out.below i.out);have a8:=H.out.1;have a9:=H.out.2.1;have b0:=H.out.2.2.1;have b5:=H.out.2.2.2;refine(zaM x lo J S T c5 (by omega) (by omega) (by omega) (by omega) h.out.1 h.out.2 a.out.2.1 a.out.2.2.2).mono ?_
  rintro e X ⟨rfl,g⟩;replace o:=zc o g;replace h:Hid (qd X lo x.la/\qd X J x.ca):=⟨h.out.1.below g,h.out.2.below g⟩;replace i:=hI (zj i.out g);replace a:=hI (a.out.below g);clear g;obtain⟨k0,k1,k2,k3,k4,k5,k6,k7⟩:=ce8 o;go_wp2_with fail;refine(zfq x lo J S T X (by omega) (by omega) (by omega) (by omega) h.out.1 h.out.2).mono ?_
  rintro e c6 ⟨rfl,l⟩;clear k0 k1 k2 k3 k4 k5 k6 k7 o a8 a9 b0 b5;replace i:=hI (zj i.out l);replace a:=hI (a.out.below l);clear l h
  by_cases D:zU x
  ·obtain⟨t,u⟩:=zaw D
   have HG:=hI D;rw[t,u];clear t u D;have V:(QS x).size<=1048576:=by have:=zev HG.out;omega
   go_wp2_with fail;refine(zfA (QS x) c6 V a.out.2.1 a.out.2.2.2).mono ?_;rintro e B ⟨z,vl,vc,ok,rfl,f⟩;obtain⟨l2,d1,rfl,_,_,_⟩:=zt f.la;obtain⟨o2,d2,rfl,_,_,_⟩:=zt f.ca
   rcases f.ans with⟨rfl,G,a2⟩|⟨_,_,a7⟩
   case inr=>exact absurd rfl (a7 x HG.out)
   have a0:Hid (zU z/\QS z=QS x):=⟨G,a2⟩;have hr:=zbY G;have f5:=(zbp G).1;have f4:=(zbq G).1;have k:Below B.heap.size B (B.alloc (.cells #[int i64 z.id,.string z.fr,.string z.dst,int i64 z.dep,int i64 z.arr,.slice l2 z.la.n d1,.slice o2 z.ca.n d2,int i64 z.most] 37)):=zr bZ _;have bZ:=heap_alloc_new B (.cells #[int i64 z.id,.string z.fr,.string z.dst,int i64 z.dep,int i64 z.arr,.slice l2 z.la.n d1,.slice o2 z.ca.n d2,int i64 z.most] 37);have P:Hid (qd (B.alloc (.cells #[int i64 z.id,.string z.fr,.string z.dst,int i64 z.dep,int i64 z.arr,.slice l2 z.la.n d1,.slice o2 z.ca.n d2,int i64 z.most] 37)) l2 z.la/\qd (B.alloc (.cells #[int i64 z.id,.string z.fr,.string z.dst,int i64 z.dep,int i64 z.arr,.slice l2 z.la.n d1,.slice o2 z.ca.n d2,int i64 z.most] 37)) o2 z.ca):=⟨(pairs_of_own f.la).below k,(pairs_of_own f.ca).below k⟩;have M:=hI (zj (zj i.out f.bel) k);have Q:=hI (HT.out.below M.out);clear f G a2 k i a;go_wp2_with fail;refine(zaM z l2 o2 d1 d2 _ (by omega) (by omega) (by omega) (by omega) P.out.1 P.out.2 Q.out.2.1 Q.out.2.2.2).mono ?_
   rintro e w6 ⟨rfl,v⟩;have N:=hI (zj M.out v);obtain⟨t,u⟩:=zaw a0.out.1;rw[t,u,a0.out.2];clear t u v M Q P bZ;go_wp2;go_ret;exact⟨rfl,N.out⟩
  ·obtain⟨t,u⟩:=zdx D
   rw[t,u];clear t u D;go_wp2;go_ret;exact⟨rfl,i.out⟩
section
open Go.ChangeShapes Go.WideShapes Go.ChangeAt Go.RowKit Go.Deep
section
variable {H : Type} {enc : TypeId × Value -> H} {P : Program} {w : World} {base : Nat} {spare : Nat -> Bool} {held : Bool}
def LenIs (d:DataW H)(n:Nat):Prop:=(d=.nil/\n=0)∨∃ els rest,d=.slice els rest/\els.length=n
theorem len_reach {t e n:Nat}{d:DataW H}{bytes:Nat}(c:P.underlying t=some (.slice e))(b:P.bytesOf e=bytes)(hd:LenIs d n)(f:∀ x ∈ DataW.weights P t d,x<=reachBytes):n*bytes<=reachBytes:=by
 rcases hd with⟨_,rfl⟩|⟨a,rest,rfl,rfl⟩
 ·omega
 ·have:=f ((a.length+rest.length)*P.bytesOf e) (by simp[DataW.weights,c])
  rw[b] at this;exact Nat.le_trans (Nat.mul_le_mul_right _ (Nat.le_add_right _ _)) this
end
end
section
open Go.ChangeShapes Go.WideShapes Go.ChangeAt Go.RowKit Go.Deep Go.Joins
theorem Tryz.own:ownKnob Tryz.prog.godebug=none:=by kernel_rfl
theorem Tryz.laidOut:laidOutB Tryz.prog=true:=by kernel_rfl
theorem Tryz.cellsByte:Tryz.prog.cellsOf 5=1:=by kernel_rfl
theorem Tryz.bytesByte:Tryz.prog.bytesOf 5=1:=by kernel_rfl
theorem zdH {P:Program}{t e:Nat}{w:World}{r:Reach}{base:Nat}{v:Value}(a:P.underlying t=some (.slice e))(h:Value.okWide P w r base t v):v.cells.toList=[v]:=by
 simp only[Value.okWide,a,Cell.okWide] at h
 cases v <;> simp_all [Cell.ok,Value.cells]
theorem wf_u8_in {n:Int}(h:(Lit.int .u8 n).wf=true):0<=n/\n<=255:=by
 have h1:IntKind.u8.min=0:=rfl;have h2:IntKind.u8.max=255:=rfl;simp[Lit.wf] at h
 omega
theorem zgD {H:Type}{enc:TypeId × Value->H}{W:World}{base:Nat}{v:Value}{d:DataW H}{p:List MemPlace}(s:Value.okWide Tryz.prog W .any base 22 v)
  (h:DataW.Trod enc Tryz.prog W 0 (fun _=>true) true 22 v d p) (t:∀ x ∈ DataW.weights Tryz.prog 22 d,x<=reachBytes) :
  ∃ ao n c,v=.slice ao n c/\n<=1000000000000000/\BytesAt W ao n:=by
 obtain⟨fuel,m⟩:=h;rw[zdH Tryz.underlying22 s] at m
 rcases open_ints Tryz.underlying22 Tryz.underlying5 Tryz.cellsByte m with⟨e,o⟩|⟨a,n,cap,g,e,_,hl,hm,u,o,f,j⟩
 ·simp at e
  subst e;exact⟨none,0,0,rfl,by omega,fun k q=>by omega⟩
 ·simp at e
  subst e;simp only[if_true] at u;have r:=len_reach (H:=H) (n:=n) Tryz.underlying22 Tryz.bytesByte (.inr ⟨lits .u8 (g.take n),lits .u8 (g.drop n),by simpa using congrArg Prod.fst o,by simp[lits];omega⟩) t
  unfold reachBytes at r;refine⟨some a,n,cap,rfl,by omega,fun k q=>?_⟩
  obtain⟨b,off,rfl,i⟩:=ints_at f (by omega)
  have l:=wf_u8_in (j (g.getD k 0) (by rw[List.getD_eq_getElem?_getD,List.getElem?_eq_getElem (by omega)];exact List.getElem_mem _))
  exact⟨b,off,g.getD k 0,rfl,i k (by omega),l.1,l.2⟩
end
end Go.Proofs.YtfallpinmhbemaaGreatDoor
