/-
  OWN TEXT: SpecOwA, SettF, SettG, FormsI, WhereI, NameI, OpI.
-/
import Derived.Deep.RegionLawGrows
import Derived.Deep.AppendLies
import Derived.Great.Walk
import Derived.Laws.Tables
import Derived.Test.YtmdnjgihooflfaaGreatDoorKitCo
import Derived.Test.YtmdnjgihooflfaaGreatDoorRows
import Derived.Deep.DeepCutAuto
import Derived.Test.YtmdnjgihooflfaaGreatDoorB22
namespace Go.Proofs.YtmdnjgihooflfaaGreatDoor
open Go.RowKit
open Go.Value (int)
open Go.IntKind (i64)
open Tryz
set_option maxHeartbeats 64000000
set_option maxRecDepth 100000
section
open Go.RowKit
variable{w:World}{g t:Nat}{u0 u1 u2 u3 u4 u5 u6 u7:Value}
theorem Tryz.infoLoadO:(Tryz.prog.info? 145).map (λi=>(i.zero,i.size,i.bytes))=some (some (.agg #[True,True,True]),3,72):=by kernel_rfl
theorem Tryz.infoBookingO:(Tryz.prog.info? 150).map (λi=>(i.zero,i.size,i.bytes))=some (some (.agg #[(),(),False,True,(),(),(),(),.bool false,(),(),(),()]),13,128):=by kernel_rfl
theorem sbox_5 (h:w.heap[g]?=some (.cells #[u0,u1,u2,u3,u4,u5,u6,u7] t (0,0)))(v:Value):(w.setCell (g,5) v).heap[g]?=some (.cells #[u0,u1,u2,u3,u4,v,u6,u7] t (0,0)):=by simpa using zm h 5 v
theorem sbox_6 (h:w.heap[g]?=some (.cells #[u0,u1,u2,u3,u4,u5,u6,u7] t (0,0)))(v:Value):(w.setCell (g,6) v).heap[g]?=some (.cells #[u0,u1,u2,u3,u4,u5,v,u7] t (0,0)):=by simpa using zm h 6 v
theorem bbox_3 {u8 u9 u10 u11 u12:Value}(h:w.heap[g]?=some (.cells #[u0,u1,u2,u3,u4,u5,u6,u7,u8,u9,u10,u11,u12] t (0,0)))(v:Value):(w.setCell (g,3) v).heap[g]?=some (.cells #[u0,u1,u2,v,u4,u5,u6,u7,u8,u9,u10,u11,u12] t (0,0)):=by simpa using zm h 3 v
theorem QY {c:Option Addr}{n:Nat}{F:Nat->Int}(h:zT w c n F):∀ a,c=some a->∀ j u,(zS F n)[j]?=some u->w.cell? (a.add j)=some u:=by
 intro a e j u i;obtain⟨g,rfl⟩:=zcD F n j u i;obtain⟨b,off,d,f⟩:=h j g;rw[e] at d
 cases d
 rw[Addr.add_lit];exact f
theorem Tryz.sizeBookingO:(Tryz.prog.info? 150).map (·.size)=some 13:=by kernel_rfl
theorem zeO (n a pe len hei cl be st d c:Int)(o:ByteArray)(al:Bool)(la:Option Addr)(ln b:Nat) :
  Tryz.prog.builtSlice 150 1 [(0,.agg #[int i64 n,int i64 a,.string o,.slice la ln b,int i64 pe,int i64 len,int i64 hei,int i64 cl,.bool al,int i64 be,int i64 st,int i64 d,int i64 c])]=some #[int i64 n,int i64 a,.string o,.slice la ln b,int i64 pe,int i64 len,int i64 hei,int i64 cl,.bool al,int i64 be,int i64 st,int i64 d,int i64 c]:=by kernel_rfl
structure OwSt (w V a:World)(v1 v2 v3:Value)(c d e:Nat)(x:Off)(L C A B D E:Nat->Value):Prop where
 q:a.heap[w.heap.size+1+1]?=some (.cells #[v1,v2,v3] 38 (0,0))
 own:zF a V.heap.size v1 v2 v3 c d e x L C A B D E
 kp:zx V a (λb=>b=w.heap.size+1+1∨V.heap.size<=b)
theorem zdx (ao al bo:Option Addr)(N M R c cl cb:Nat)(x:Off)(w:World)(e1:x.san=N)(e2:x.ldn=M)(I:x.bkn=R)(hs:Off.Short x 1048576)(hz:qB w ao N x.sa)(hl:ZG w al M x.ld)(l6:qO w bo R x.bk) :
  Calls prog 70 #[.agg #[.slice ao N c,.slice al M cl,.slice bo R cb]] w λe w'=>(∃ a1 c1 a2 c2 m c3 L C A B D E,e=.returned (.agg #[.slice a1 N c1,.slice a2 M c2,.slice m R c3])/\zF w' w.heap.size (.slice a1 N c1) (.slice a2 M c2) (.slice m R c3) N M R x L C A B D E)/\Below w.heap.size w w':=by
 obtain⟨j0,ji,n7,n8,n9⟩:=info_parts Tryz.infoSailing;obtain⟨l0,li,o0,o4,o5⟩:=info_parts Tryz.infoLane;obtain⟨m0,mi,o6,o7,o8⟩:=info_parts Tryz.infoCabin;obtain⟨p0,pi,o9,p1,p2⟩:=info_parts Tryz.infoLoadO;obtain⟨r0,ri,p3,p4,p5⟩:=info_parts Tryz.infoBookingO;obtain⟨i0,ii,n4,n5,n6⟩:=info_parts Tryz.infoInt;have HS:Hid (QL N x.sa 1048576):=by have h:=hs.1.2;rw[e1] at h;exact h
 have k7:Hid (ZA M x.ld 1048576):=by have h:=hs.2.1.2;rw[e2] at h;exact h
 have m8:Hid (Z2 R x.bk 1048576):=by have h:=hs.2.2.2;rw[I] at h;exact h
 have hN:N<=1048576:=by have h:=hs.1.1;omega
 have hM:M<=1048576:=by have h:=hs.2.1.1;omega
 have hR:R<=1048576:=by have h:=hs.2.2.1;omega
 have HZ:=hI hz;have HL:=hI hl;have l9:=hI l6;clear hs hz hl l6 e1 e2 I;have q:Below _ w (((w.alloc (.cells #[(ao,N,c),(al,M,cl),(bo,R,cb)] 38)).alloc (.cells #[True,True,True] 38)).alloc (.cells #[True,True,True] 38)):=zk (zk (zk bZ _) _) _;have bO:(((w.alloc _).alloc (.cells #[True,True,True] 38)).alloc (.cells #[True,True,True] 38)).heap[w.heap.size]?=some (.cells #[(ao,N,c),(al,M,cl),(bo,R,cb)] 38 (0,0)):=zd (zd (Jb w _) _) _;have bR:(((w.alloc (.cells #[(ao,N,c),(al,M,cl),(bo,R,cb)] 38)).alloc _).alloc (.cells #[True,True,True] 38)).heap[w.heap.size+1]?=some (.cells #[True,True,True] 38 (0,0)):=zd (zfT w _ _) _;have bQ:(((w.alloc (.cells #[(ao,N,c),(al,M,cl),(bo,R,cb)] 38)).alloc (.cells #[True,True,True] 38)).alloc (.cells #[True,True,True] 38)).heap[w.heap.size+1+1]?=some (.cells #[True,True,True] 38 (0,0)):=by simpa using Jb ((w.alloc _).alloc _) _
 go_enter func70,ntmps70;go_wp2;generalize ((w.alloc _).alloc _).alloc _=V at q bO bR bQ ⊢;have j8:=hI bO;have m1:=hI bR;have q5:=zM bQ;go_loopw [5,14] (λ_ i wr=>∃ (k:Nat) (v:Value) (L C:_),k<=N/\i=int i64 k/\wr.heap[w.heap.size+1+1]?=some (.cells #[v,True,True] 38 (0,0))/\qM wr V.heap.size v k x.sa L C/\zx V wr (λb=>b=w.heap.size+1+1∨V.heap.size<=b)) (λ_ i _=>N - (intOf i).toNat)
 case atStart=>exact⟨0,_,λ_=>.slice none 0 0,λ_=>.slice none 0 0,Jq _,rfl,bQ,qM.nil _ _ _ _ _,zx.refl _ _⟩
 case round =>
  clear bO bR bQ;obtain⟨k,v,L,C,hk,rfl,hQ,hO,b3⟩:=hrel;have d:=zx.below q q.size b3 (λb e=>by have e:=e;have:=q.size;omega)
  have b0:=b3.size
  by_cases hlt:k<N
  ·obtain⟨b,off,la,lc,ca,cc,rfl,h0,h1,h2,h3,h4,h5,h6,h7,h8,h9,i3,i4⟩:=HZ.out k hlt
   obtain⟨s,j6⟩:∃ s,s=x.sa k:=⟨_,rfl⟩;obtain⟨_,_,s3,s4⟩:=HS.out k hlt;rw[← j6] at h0 h1 h2 h3 h4 h5 h6 h7 h8 h9 i3 i4 s3 s4;have g8:=hI j6;have l:=Ja w _ h1;have c0:=(d.cell (p:=⟨b,off+_,_⟩) l).trans h0;have c1:=(d.cell l).trans h1;have c2:=(d.cell (p:=⟨b,_+2,_⟩) l).trans h2;have c3:=(d.cell (p:=⟨b,_+3,_⟩) l).trans h3;have c4:=(d.cell (p:=⟨b,_+4,_⟩) l).trans h4;have c5:=(d.cell (p:=⟨b,_+5,_⟩) l).trans h5;have c6:=(d.cell (p:=⟨b,_+6,_⟩) l).trans h6;have c7:=(d.cell (p:=⟨b,_+7,_⟩) l).trans h7;have k2:Hid (_/\_):=⟨h8,i3⟩;have j9:Hid (_/\_):=⟨h9,i4⟩;clear h0 h1 h2 h3 h4 h5 h6 h7 h8 h9 i3 i4 j6;have b2:Hid (∀ i,_->_/\_):=λi hi=>⟨λb l=>((hO.la i hi).lt b l).2,λb l=>((hO.ca i hi).lt b l).2⟩
   have G:Below _ wr (wr.alloc (.cells (s,la,lc,ca,cc) 140)):=zk bZ _;have bX:=Jb wr (.cells (s,la,lc,ca,cc) 140);have o:=zd bX (.cells #[] 223);have n:Below _ wr ((wr.alloc _).alloc (.cells #[] 223)):=zk G _;have x5:=za o 5 _ rfl;have hE:((wr.alloc (.cells (s,la,lc,ca,cc) 140)).alloc _).ownsRow _ 223 2 _ 0 []:=⟨rfl,.inr ⟨_,0,#[],rfl,Jr _,zfT wr _ _,Jr _,Jq _,rfl,rfl⟩⟩;have HE:Hid _:=hE;have S:=hI (zcI (k2.out.1.below (ze d n)));have T:=hI k2.out.2.2.2;clear hE;go_upto_region 6 with(first|(at_builtin;refine zv _ (by rfl) _ _ 137 (by rfl) _ 223 l0 _ 2 16 underlying137 li o0 o4 o5 rfl (by decide) _ 0 [] (by rfl) HE.out la _ lc _ (by rfl) T.out (zaT _) S.out (zcH _) (by unfold maxLen;omega) (by omega) (by simp) ?_;intro v3 w3 Q a5;rw[Nat.zero_add,List.nil_append] at Q;obtain⟨m,I,rfl,_⟩:=zp Q;have K:=(qJ a5).blk o (by simp[Value.ownBlock]);have u5:=za K 5 _ rfl;have f5:=zg K 5;have d2:=n.grown a5 n.size (λj hj=>by simp[Value.ownBlock] at hj;omega)))
   have U:=sbox_5 K (m,s.la.n,I);have O:Below _ wr (w3.setCell _ (m,s.la.n,I)):=d2.setCell (p:=(wr.heap.size,5)) (Jr _) _;have j3:(w3.setCell _ (m,s.la.n,I)).ownsRow _ 223 2 _ _ _:=ZW Q (a:=(wr.heap.size,5)) (by show wr.heap.size<_;omega) _
   generalize w3.setCell _ _=W4 at U O j3 ⊢;have b1:=hI j3;clear K u5 f5 d2 Q a5 x5 G bX o n HE S T j3 c0 c1 c2 c3 c4 c5 c6 c7;have o:=zd U (.cells #[] 231);have n:Below _ wr (W4.alloc (.cells #[] 231)):=zk O _;have d3:Below _ W4 (W4.alloc (.cells #[] 231)):=zk bZ _;have x6:=za o 6 _ rfl;have q3:=zM U;have hE:(W4.alloc _).ownsRow _ 231 2 _ 0 []:=⟨rfl,.inr ⟨_,0,#[],rfl,Jr _,Jb W4 _,Jr _,Jq _,rfl,rfl⟩⟩;have HE:Hid _:=hE;have S:=hI (zcI (j9.out.1.below (ze d n)));have T:=hI j9.out.2.2.2;clear hE;go_upto_region 7 with(first|(at_builtin;refine zv _ (by rfl) _ _ 138 (by rfl) _ 231 m0 _ 2 16 underlying138 mi o6 o7 o8 rfl (by decide) _ 0 [] (by rfl) HE.out ca _ cc _ (by rfl) T.out (zaT _) S.out (zcH _) (by unfold maxLen;omega) (by omega) (by simp) ?_;intro v6 w6 f7 j1;rw[Nat.zero_add,List.nil_append] at f7;obtain⟨a6,e6,rfl,_⟩:=zp f7;have e5:=(qJ j1).blk o (by simp[Value.ownBlock];omega);have u6:=za e5 6 _ rfl;have f6:=zg e5 6;have X:=d3.grown j1 d3.size (λj hj=>by simp[Value.ownBlock] at hj;omega)))
   have k9:=sbox_6 e5 (a6,s.ca.n,e6);have i8:Below _ wr (w6.setCell _ (a6,s.ca.n,e6)):=(ze O X).setCell (p:=(wr.heap.size,6)) (Jr _) _;have j4:(w6.setCell _ (a6,s.ca.n,e6)).ownsRow _ 223 2 _ _ _:=ZW (zo X b1.out) (a:=(wr.heap.size,6)) (by show wr.heap.size<_;omega) _
   have i9:(w6.setCell _ (a6,s.ca.n,e6)).ownsRow (wr.heap.size+1) 231 2 _ _ _:=zu (ZW f7 (a:=(wr.heap.size,6)) (by show wr.heap.size<W4.heap.size;omega) _) (by omega)
   generalize w6.setCell _ _=W7 at k9 i8 j4 i9 ⊢;clear U o e5 u6 f6 X f7 j1 x6 n d3 HE S T b1 O;obtain⟨av,cv,rfl,_⟩:=zp hO.row;have l5:=zb hQ i8;obtain⟨y0,y1,y2,y3,y4,y5,y6,y7⟩:=ce8 k9;have q0:=za l5 0 _ rfl;have a4:Below _ wr (W7.alloc (.cells (s,m,I,a6,e6) 140)):=zk i8 _;have f8:Below _ W7 (W7.alloc (.cells (s,m,I,a6,e6) 140)):=zk bZ _;have l2:=hO.below a4;have l8:=zo f8 j4;have l7:=zo f8 i9;have i6:=zd l5 (.cells (s,m,I,a6,e6) 140);have g5:Hid (∀ j u,([_,_,_,_,_,_,_,_]:List Value)[j]?=_->(W7.alloc (.cells (s,m,I,a6,e6) 140)).cell? _=_):=Jo (Jb W7 _);have J:=hI l2;have k3:Hid (_/\_):=⟨l8,l7⟩;have d7:=Jp b0 a4.size;clear l2 l8 l7 j4 i9;go_wp2_with (first|(at_builtin;refine zv _ (by rfl) _ _ 34 (by rfl) _ 140 j0 _ 8 112 underlying34 ji n7 n8 n9 rfl (by decide) _ k _ (by rfl) J.out.row _ 1 1 [_,_,_,_,_,_,_,_] (by rfl) (λh=>(by cases h)) (by rfl) (λad e=>by cases e;exact g5.out) (by intro u hu;simp at hu;rcases hu with rfl|rfl|rfl|rfl|rfl|rfl|rfl|rfl <;> rfl) (by unfold maxLen;omega) (by omega) d7 ?_;intro v9 w9 d5 a7;obtain⟨a9,e9,rfl,_⟩:=zp d5;have W:=(qJ a7).blk i6 (λe=>by have:=(J.out.row.lt _ e).1;omega);have r9:=za W 0 _ rfl;have f9:=zg W 0))
   have e8 :=
    J.out.snoc (lim:=wr.heap.size+1) (λi hi=>⟨λb l=>by have:=(b2.out i hi).1 b l;omega,λb l=>by have:=(b2.out i hi).2 b l;omega⟩) (by rw[← g8.out];exact k3.out.1) (by rw[← g8.out];exact k3.out.2) (by omega) a7 (by rw[← g8.out];exact d5)
   have H:zx w9 (w9.setCell _ (a9,k+1,e9)) _:=(zx.refl _ (λb=>b=_+1)).set (a:=(w.heap.size+1+1,0)) rfl _
   have b4:=hI (e8.kept H (λb e=>by have e:=e;omega))
   have m4 :=
    hI ((b3.trans (zx.of_below a4)).trans (((qJ a7).mono (λb e=>.inr (J.out.row.lt b e).1)).trans (H.mono (λb e=>.inl e))))
   have g4:=off_at0 W (a9,k+1,e9);have g4:=hI g4;go_wp2;go_roundw
   case rel=>exact⟨_,_,_,_,by omega,by go_num,g4.out,b4.out,m4.out⟩
   case measure=>simp[intOf];omega
  ·obtain rfl:k=N:=by omega
   have o1:=za (b3.blk j8.out (λe=>by have e:=e;omega)) 1 _ rfl
   have k6:Hid (OwSt w V wr v _ _ k 0 0 x L C (λ_=>.slice none 0 0) (λ_=>.slice none 0 0) (λ_=>.slice none 0 0) (λ_=>.slice none 0 0)):=⟨hQ,⟨hO,qC.nil _ _ _ _ _ _,ZC.nil _ _ _ _⟩,b3⟩
   obtain⟨av,cv,rfl,_⟩:=zp hO.row;clear hlt d hO hQ b3 b0 hk HZ HS;go_wp2;clear o1;go_loopw [7,38] (λ_ i wz=>∃ (t:Nat) (lv:Value) (A B D:_),t<=M/\i=int i64 t/\Hid (OwSt w V wz (av,k,cv) lv True k t 0 x L C A B D (λ_=>.slice none 0 0))) (λ_ i _=>M - (intOf i).toNat)
   case atStart=>exact⟨0,_,_,_,_,Jq _,rfl,k6.out⟩
   case round =>
    clear k6;obtain⟨t,lv,A,B,D,ht,rfl,f⟩:=hrel;have d:=zx.below q q.size f.out.kp (λb e=>by have e:=e;have:=q.size;omega)
    obtain⟨ae,ce,rfl,_⟩:=zp f.out.own.ld.row
    by_cases hlt:t<M
    ·obtain⟨Cc,d6,d4⟩:=HL.out
     obtain⟨b,off,rfl,F⟩:=d6 t hlt;obtain⟨b5,b8,b6,b9,b7,d0,a0,g1,s1,g2,s2,g3,s3⟩:=d4 t hlt;have a8:=k7.out t hlt;obtain⟨z,hz⟩:∃ z,z=x.ld t:=⟨_,rfl⟩;rw[← hz] at a0 g1 s1 g2 s2 g3 s3 a8;have g9:=hI hz;rw[a0] at F;have l:=Ja w _ (F 0 (by decide))
     have c0:wr.cell? _=some (.slice b5 _ b8):=(d.cell (p:=⟨b,off+_,_⟩) l).trans (F 0 (by decide))
     have c1:wr.cell? _=some (.slice b6 _ b9):=(d.cell (p:=⟨b,_+1,_⟩) l).trans (F 1 (by decide))
     have c2:wr.cell? _=some (.slice b7 _ d0):=(d.cell (p:=⟨b,_+2,_⟩) l).trans (F 2 (by decide))
     have Y:Hid (_/\(_/\_)/\(_/\_)/\(_/\_)):=⟨a8,⟨g1,s1⟩,⟨g2,s2⟩,⟨g3,s3⟩⟩;have m2:=hI d;clear F a0 g1 s1 g2 s2 g3 s3 a8 hz d6 d4;have G:Below _ wr (wr.alloc (.cells #[(b5,z.stn,b8),(b6,z.ron,b9),(b7,z.sen,d0)] 145)):=zk bZ _;have bX:=Jb wr (.cells #[(b5,z.stn,b8),(b6,z.ron,b9),(b7,z.sen,d0)] 145);have i7:=zd f.out.q (.cells #[(b5,z.stn,b8),(b6,z.ron,b9),(b7,z.sen,d0)] 145)
     as_aux_lemma =>
      go_upto_region 12 with fail;generalize hbxx:wr.heap.size=bx at bX ⊢;generalize wr.alloc _=WB at G bX i7 ⊢;rw[← hbxx] at *;clear c0 c1 c2;obtain⟨x0,x1,x2⟩:=ce3 bX;have q1:=za i7 1 _ rfl;have e4:=hI (f.out.own.below G);have k0:=hI (f.out.kp.trans (zx.of_below G));have g0:=k0.out.size;have b2:Hid (∀ i,_->_/\_/\_):=λi hi=>⟨λg hg=>((e4.out.ld.st i hi).lt g hg).2,λg hg=>((e4.out.ld.ro i hi).lt g hg).2,λg hg=>((e4.out.ld.se i hi).lt g hg).2⟩
      have m3:Hid (∀ Z,Below _ WB Z->Calls _ 138 _ Z λe w5=>(∃ a1 c1 a2 c2 m c3,e=.returned (.agg #[.slice a1 _ c1,.slice a2 _ c2,.slice m _ c3])/\Hid (w5.ownsRow _ 220 4 (.slice a1 _ c1) _ _/\w5.ownsRow _ 228 4 (.slice a2 _ c2) _ _/\w5.ownsRow _ 234 2 (.slice m _ c3) _ _))/\Below _ WB w5):=λZ hZ=>by
       have j7:=ze m2.out (ze G hZ);refine(ziZ b5 b6 b7 b8 b9 d0 z Z Y.out.1 (Y.out.2.1.1.below j7) (Y.out.2.2.1.1.below j7) (Y.out.2.2.2.1.below j7) Y.out.2.1.2 Y.out.2.2.1.2 Y.out.2.2.2.2).mono ?_;rintro e w5 ⟨⟨v1,v2,v3,rfl,o1,o2,o3⟩,n2⟩;obtain⟨a1,c1,rfl,_⟩:=zp o1;obtain⟨a2,c2,rfl,_⟩:=zp o2;obtain⟨m,c3,rfl,_⟩:=zp o3;exact⟨⟨a1,c1,a2,c2,m,c3,rfl,zu o1 hZ.size,zu o2 hZ.size,zu o3 hZ.size⟩,ze hZ n2⟩
      clear f bX d;go_region_law (first
       | (go_simp;go_at_call 138;(with_reducible refine Jm (m3.out _ ?_) ?_);(focus(repeat(first | exact bZ | refine Jh ?_ | refine zk ?_ _)));rintro e w5 ⟨⟨a1,c1,a2,c2,m,c3,rfl,g7⟩,X⟩;have i5:=zb i7 X;have qq:=za i5 1 _ rfl;have qa:=za (zd i5 (.cells #[(a1,z.stn,c1),(a2,z.ron,c2),(m,z.sen,c3)] 145)) 1 _ rfl;have e0:Hid (zF (w5.alloc (.cells #[(a1,z.stn,c1),(a2,z.ron,c2),(m,z.sen,c3)] 145)) _ _ _ _ k t 0 x L C A B D _):=e4.out.below (zk X _);have n3:V.heap.size<=(w5.alloc (.cells #[(a1,z.stn,c1),(a2,z.ron,c2),(m,z.sen,c3)] 145)).heap.size:=Jp g0 (zk X _).size;dsimp only)
       | (refine step_append_lies _ (by rfl) _ _ 35 (by rfl) _ 145 p0 _ 3 72 underlying35 pi o9 p1 p2 rfl (by decide) _ t _ (by rfl) e0.out.ld.row _ 1 1 [_,_,_] (by rfl) (by rfl) (Jo (Jb w5 _)) (by intro u hu;simp at hu;rcases hu with rfl | rfl | rfl <;> rfl) (by decide) (by unfold maxLen;omega) (by omega) n3 (w5.heap.size+1) (by simp) ?_;intro g6 l1 w6 j5 P p9 q4;have f4:=(qJ P).blk (zd i5 _) (λe=>by have:=(e0.out.ld.row.lt _ e).1;omega);have u1:=za f4 1 _ rfl;have u2:=zg f4 1))
      all_goals
       have k5:=e0.out.load b2.out (by rw[← g9.out];exact zo (zk bZ _) g7.out.1) (by rw[← g9.out];exact zo (zk bZ _) g7.out.2.1) (by rw[← g9.out];exact zo (zk bZ _) g7.out.2.2) g0 P j5
       have H:zx w6 (w6.setCell _ (some (g6,0),t+1,l1)) _:=(zx.refl _ (λb=>b=_+1)).set (a:=(w.heap.size+1+1,1)) rfl _
       have b4:Hid (OwSt w V _ _ _ _ k _ 0 x L C _ _ _ _):=⟨off_at1 f4 _,k5.box H f4 (by decide),(k0.out.trans (zx.of_below (zk X _))).trans (((qJ P).mono (λb e=>.inr (e0.out.ld.row.lt b e).1)).trans (H.mono (λb e=>.inl e)))⟩
       clear k5 H;go_wp2;go_roundw
       case rel=>exact⟨_,_,_,_,_,by omega,by go_num,b4.out⟩
       case measure=>simp[intOf];omega
    ·obtain rfl:t=M:=by omega
     have o2:=za (f.out.kp.blk j8.out (λe=>by have e:=e;omega)) 2 _ rfl
     clear hlt d ht HL k7;go_wp2;clear o2;go_loopw [9,53] (λ_ i wz=>∃ (r:Nat) (bv:Value) (E:_),r<=R/\i=int i64 r/\Hid (OwSt w V wz (av,k,cv) (ae,t,ce) bv k t r x L C A B D E)) (λ_ i _=>R - (intOf i).toNat)
     case atStart=>exact⟨0,_,_,Jq _,rfl,f.out⟩
     case round =>
      clear f;obtain⟨r,bv,E,hr,rfl,f⟩:=hrel;have d:=zx.below q q.size f.out.kp (λb e=>by have e:=e;have:=q.size;omega)
      obtain⟨ab,e7,rfl,_⟩:=zp f.out.own.bk.row
      by_cases hlt:r<R
      ·obtain⟨Cc,d6,d4⟩:=l9.out
       obtain⟨b,off,rfl,F⟩:=d6 r hlt;obtain⟨d9,d8,a0,g1,s1⟩:=d4 r hlt;have a8:=m8.out r hlt;obtain⟨y,hy⟩:∃ y,y=x.bk r:=⟨_,rfl⟩;rw[← hy] at a0 g1 s1 a8;have k8:=hI hy;rw[a0] at F;have l:=Ja w _ (F 0 (by decide))
       have c0:wr.cell? _=some (.int _ _):=(d.cell (p:=⟨b,off+_,_⟩) l).trans (F 0 (by decide))
       have c1:wr.cell? _=some (.int _ _):=(d.cell (p:=⟨b,_+1,_⟩) l).trans (F 1 (by decide))
       have c2:wr.cell? _=some (.string _):=(d.cell (p:=⟨b,_+2,_⟩) l).trans (F 2 (by decide))
       have c3:wr.cell? _=some (.slice d9 _ d8):=(d.cell (p:=⟨b,_+3,_⟩) l).trans (F 3 (by decide))
       have c4:wr.cell? _=some (.int _ _):=(d.cell (p:=⟨b,_+4,_⟩) l).trans (F 4 (by decide))
       have c5:wr.cell? _=some (.int _ _):=(d.cell (p:=⟨b,_+5,_⟩) l).trans (F 5 (by decide))
       have c6:wr.cell? _=some (.int _ _):=(d.cell (p:=⟨b,_+6,_⟩) l).trans (F 6 (by decide))
       have c7:wr.cell? _=some (.int _ _):=(d.cell (p:=⟨b,_+7,_⟩) l).trans (F 7 (by decide))
       have c8:wr.cell? _=some (.bool _):=(d.cell (p:=⟨b,_+8,_⟩) l).trans (F 8 (by decide))
       have c9:wr.cell? _=some (.int _ _):=(d.cell (p:=⟨b,_+9,_⟩) l).trans (F 9 (by decide))
       have m9:wr.cell? _=some (.int _ _):=(d.cell (p:=⟨b,_+10,_⟩) l).trans (F 10 (by decide))
       have n0:wr.cell? _=some (.int _ _):=(d.cell (p:=⟨b,_+11,_⟩) l).trans (F 11 (by decide))
       have n1:wr.cell? _=some (.int _ _):=(d.cell (p:=⟨b,_+12,_⟩) l).trans (F 12 (by decide))
       have q6:=a8.2;have k4:Hid (_/\_):=⟨g1,s1⟩;clear F a0 g1 s1 a8 hy d6 d4;have G:Below _ wr (wr.alloc (.cells (y,d9,d8) 150)):=zk bZ _;have bX:=Jb wr (.cells (y,d9,d8) 150);have o:=zd bX (.cells #[] 3);have n:Below _ wr ((wr.alloc _).alloc (.cells #[] 3)):=zk G _;have x3:=za o 3 _ rfl;have HE:Hid (((wr.alloc (.cells (y,d9,d8) 150)).alloc _).ownsRow _ 3 1 _ 0 []):=⟨rfl,.inr ⟨_,0,#[],rfl,Jr _,zfT wr _ _,Jr _,Jq _,rfl,rfl⟩⟩;have S:=hI (QY (k4.out.1.below (ze d n)));have T:=hI k4.out.2.2.2;have b2:Hid (∀ i,_->∀ b,_->b<wr.heap.size+1):=λi hi g hg=>by have:=((f.out.own.bk.legs i hi).lt g hg).2;omega
       as_aux_lemma =>
        go_upto_region 18 with(first|(at_builtin;refine zv _ (by rfl) _ _ 27 (by rfl) _ 3 i0 _ 1 8 underlying27 ii n4 n5 n6 rfl (by decide) _ 0 [] (by rfl) HE.out d9 _ d8 _ (by rfl) T.out (by rw[Zn,Nat.mul_one]) S.out (Qd _ _) (by unfold maxLen;omega) (by omega) (by simp) ?_;intro v3 w3 Q a5;rw[Nat.zero_add,List.nil_append] at Q;obtain⟨m,I,rfl,_⟩:=zp Q;have K:=(qJ a5).blk o (by simp[Value.ownBlock]);have v5:=za K 3 _ rfl;have f5:=zg K 3;have d2:=n.grown a5 n.size (λj hj=>by simp[Value.ownBlock] at hj;omega)))
        have U:=bbox_3 K (m,y.lgn,I);have O:Below _ wr (w3.setCell _ (m,y.lgn,I)):=d2.setCell (p:=(wr.heap.size,3)) (Jr _) _;have b1:Hid ((w3.setCell _ (m,y.lgn,I)).ownsRow _ 3 1 _ _ _):=ZW Q (a:=(wr.heap.size,3)) (by show wr.heap.size<_;omega) _
        generalize w3.setCell _ _=W4 at U O b1 ⊢;clear K v5 f5 d2 Q a5 x3 G bX o n HE S T c0 c1 c2 c3 c4 c5 c6 c7 c8 c9 m9 n0 n1;have l4:=zb f.out.q O;obtain⟨y0,y1,y2,y3,y4,y5,y6,y7,y8,y9,p6,p7,p8⟩:=zeX U;have q2:=za l4 2 _ rfl;have a4:Below _ wr (W4.alloc (.cells (y,m,I) 150)):=zk O _;have J:=hI (f.out.own.below a4);have m7:Hid ((W4.alloc (.cells (y,m,I) 150)).ownsRow _ 3 1 _ _ _):=zo (zk bZ _) b1.out;have i6:=zd l4 (.cells (y,m,I) 150);have g5:Hid (∀ j u,([_,_,_,_,_,_,_,_,_,_,_,_,_]:List Value)[j]?=_->(W4.alloc (.cells (y,m,I) 150)).cell? _=_):=Jo (Jb W4 _);have k1:=hI f.out.kp;have b0:=k1.out.size;have d7:=Jp b0 a4.size;clear f b1 O;clear y0 y1 y2 y3 y4 y5 y6 y7 y8 y9 p6 p7 p8;refine wp_region_lit ?_;refine Go.Great.wpList_runTo rfl _ rfl _ _ (show _ from rfl) ?_;refine Go.Great.wpList_readTo rfl _ rfl (ab,r,e7) (by simp[execOp,q2,go_sem]) ?_
        refine wpList_load_row rfl _ _ rfl _ rfl _ _ _ _ U underlying150 rfl Tryz.sizeBookingO ?_;refine Go.Great.wpList_buildSliceTo rfl _ _ 1 _ rfl _ rfl _ rfl underlying36 _ (Eq.trans (congrArg _ (show _ from by first|(simp[go_sem];done)|rfl|kernel_rfl)) (zeO y.name y.who y.pe y.len y.hei y.cl y.be y.state y.unt y.price y.own y.all m y.lgn I)) ?_
        go_wp2_with (first|(at_builtin;refine zv _ (by rfl) (.tmp 63) (.tmp 65) 36 (by rfl) V.heap.size 150 r0 (.agg #[(),(),False,True,(),(),(),(),.bool false,(),(),(),()]) 13 128 underlying36 ri p3 p4 p5 rfl (by decide) _ r _ (by rfl) J.out.bk.row (some (W4.heap.size,0)) 1 1 [y.name,y.who,y.own,(m,y.lgn,I),y.pe,y.len,y.hei,y.cl,y.all,y.be,y.state,y.unt,y.price] (by rfl) (λh=>(by cases h)) (by rfl) (λad e=>by cases e;exact g5.out) (by intro u hu;simp at hu;rcases hu with rfl|rfl|rfl|rfl|rfl|rfl|rfl|rfl|rfl|rfl|rfl|rfl|rfl <;> rfl) (by unfold maxLen;omega) (by omega) d7 ?_;intro v9 w9 d5 a7;obtain⟨a9,e9,rfl,_⟩:=zp d5;have W:=(qJ a7).blk i6 (λe=>by have:=(J.out.bk.row.lt _ e).1;omega);have r9:=za W 2 _ rfl;have f9:=zg W 2))
        have e8:=J.out.book b2.out (by rw[← k8.out];exact m7.out) (by omega) a7 (by unfold bkC;rw[qu,← k8.out];exact d5)
        have H:zx w9 (w9.setCell _ (a9,r+1,e9)) _:=(zx.refl _ (λb=>b=_+1)).set (a:=(w.heap.size+1+1,2)) rfl _
        have b4:Hid (OwSt w V _ _ _ _ k t _ x L C A B D _):=⟨zlK W _,e8.box H W (by decide),(k1.out.trans (zx.of_below a4)).trans (((qJ a7).mono (λb e=>.inr (J.out.bk.row.lt b e).1)).trans (H.mono (λb e=>.inl e)))⟩
        clear e8 H;go_wp2;go_roundw
        case rel=>exact⟨_,_,_,by omega,by go_num,b4.out⟩
        case measure=>simp[intOf];omega
      ·obtain rfl:r=R:=by omega
       have d1:=f.out.kp.blk m1.out (λe=>by have e:=e;omega)
       have l3:=f.out.q;obtain⟨y0,y1,y2⟩:=ce3 l3;obtain⟨s0,s1,s2⟩:=ce3 d1;obtain⟨f0,f1,f2⟩:=fe3 d1;have j2:=zkQ wr (w.heap.size+1) (av,k,cv) (ae,t,ce) (ab,r,e7);have rF:=zeN d1 (av,k,cv) (ae,t,ce) (ab,r,e7);have m6:=hI ((f.out.own.box j2 d1 (by decide)).lower q.size)
       have m5:=hI (zx.below d d.size j2 (λb e=>by have e:=e;omega))
       clear j2 l3 d1;go_wp2;obtain⟨z0,z1,z2⟩:=ce3 rF;exact Jj (by simp[results,results70,go_sem,z0,z1,z2]) rfl ⟨⟨av,cv,ae,ce,ab,e7,L,C,A,B,D,E,rfl,m6.out⟩,m5.out⟩
end
theorem zfS.row {w u i:World}{e f g:Value}{os:Array Value}{T:Nat->Prop}(h:zfS w u e f g os)(a:zx u i T)(j:∀ b,T b->∃ cs,u.heap[b]?=some (.cells cs 150 (0,0))):zfS w i e f g os:=by
 have c:∀ b t cs,u.heap[b]?=some (.cells cs t (0,0))->150≠t->¬ T b:=λb t cs h1 h2 h3=>by
  obtain⟨cs',d⟩:=j b h3;rw[h1] at d;simp only[Option.some.injEq,Obj.cells.injEq] at d;exact h2 d.2.1.symm
 exact⟨a.blk h.bo (c _ _ _ h.bo (by decide)),a.blk h.bp (c _ _ _ h.bp (by decide)),a.blk h.br (c _ _ _ h.br (by decide)),a.blk h.ba (c _ _ _ h.ba (by decide))⟩
theorem zfS.putO {w u:World}{a b c:Value}{os:Array Value}(h:zfS w u a b c os)(q:Value):zfS w (u.setCell (w.heap.size,2) q) a b q os :=
 ⟨(zlS h.bo q).2.2,zD h.bp 2 q (by omega),zD h.br 2 q (by omega),zD h.ba 2 q (by omega)⟩
theorem keptO {w u c:World}{S T:Nat->Prop}(h:zx w u S)(k:zx u c T)(d:∀ b,T b->w.heap.size<=b):zx w c S :=
 ⟨k.os.trans h.os,k.tape.trans h.tape,k.output.trans h.output,Jp h.size k.size,λi a e=>(k.block i (Nat.lt_of_lt_of_le a h.size) (λt=>by have:=d i t;omega)).trans (h.block i a e)⟩
theorem lowK {w u:World}{S:Nat->Prop}(f:zx w u S)(a c d v0 v1 v2 v3:Value):zx w (ZK (qt u (w.heap.size+1+1) a c d) (w.heap.size+1+1+1) v0 v1 v2 v3) S :=
 keptO (keptO f (QG u (w.heap.size+1+1) a c d) (λb e=>by have e:=e;omega)) (QH (qt u (w.heap.size+1+1) a c d) (w.heap.size+1+1+1) v0 v1 v2 v3) (λb e=>by have e:=e;omega)
theorem znM (x:Off)(s t a3:Option Addr)(c1 c2 c3 base:Nat)(L C A B D E:Nat->Value)(c st:Int)(y:OpD)(z:Option Addr)(N:Nat)(w:World)(hk:(y.kind=2/\st=1)∨(y.kind=3/\st=2))(hB:Zq w)(hF:Zu w)(hp:QU ⟨y.pe,y.len,y.hei,y.cl,y.all,y.be⟩ y.lgn)(hl:zT w z y.lgn y.lg)(hu:y.kind=3->y.unt=0)(e0:x.bkn<30)(b6:base<=w.heap.size)(T:zF w base (s,x.san,c1) (t,x.ldn,c2) (a3,x.bkn,c3) x.san x.ldn x.bkn x L C A B D E) :
  Calls prog 111 #[.agg #[.slice s x.san c1,.slice t x.ldn c2,.slice a3 x.bkn c3],int i64 c,.agg #[int i64 y.kind,.string y.own,int i64 y.name,.slice z y.lgn N,int i64 y.pe,int i64 y.len,int i64 y.hei,int i64 y.cl,.bool y.all,int i64 y.be,int i64 y.unt,int i64 y.now]] w λe w'=>(∃ b3 d3 E2,e=.returned (.tuple #[.agg #[.slice s x.san c1,.slice t x.ldn c2,.slice b3 (x.bkn+1) d3],.agg #[int i64 0,int i64 ((x.bkn:Int)+1),int i64 (zE ⟨y.pe,y.len,y.hei,y.cl,y.all,y.be⟩ y.lgn),.slice none 0 0]])/\zF w' base (.slice s x.san c1) (.slice t x.ldn c2) (.slice b3 (x.bkn+1) d3) x.san x.ldn (x.bkn+1) { x with bkn:=x.bkn+1,bk:=zah x.bk x.bkn (Qf x.bkn c y) } L C A B D E2)/\zx w w' (λb=>(Value.slice a3 x.bkn c3).ownBlock=some b):=by
 obtain⟨r0,ri,d6,d7,d8⟩:=info_parts Tryz.infoBookingO;have I:=hI T;have c0:Hid ((y.kind=2->st=1)/\(y.kind≠2->st=2)):=by rcases hk with⟨h1,h2⟩|⟨h1,h2⟩ <;> exact⟨λh=>by omega,λh=>by omega⟩
 have a9:Hid (Qf x.bkn c y=⟨(x.bkn:Int)+1,c,y.own,y.lgn,y.lg,y.pe,y.len,y.hei,y.cl,y.all,y.be,st,y.unt,(zE ⟨y.pe,y.len,y.hei,y.cl,y.all,y.be⟩ y.lgn)⟩):=by
  show _=_
  unfold Qf
  rcases hk with⟨h1,h2⟩|⟨h1,h2⟩
  ·rw[Jf h1,Jf h1,h2]
  ·rw[Je (by omega),Je (by omega),h2,hu h1]
 have HP:=hI hp;have HI:=hI hl;have e1:IntKind.i64.wrap ((x.bkn:Int)+1)=(x.bkn:Int)+1:=by rw[Jk];omega
 have q:=hI (zfS.start w (s,x.san,c1) (t,x.ldn,c2) (a3,x.bkn,c3) (y,z,N));have g:Below _ w ((((w.alloc (.cells #[(s,x.san,c1),(t,x.ldn,c2),(a3,x.bkn,c3)] 38)).alloc (.cells (y,z,N) 47)).alloc (.cells #[True,True,True] 38)).alloc (.cells #[(),(),(),True] 41)):=zk (zk (zk (zk bZ _) _) _) _;have d1:(y.kind == 1)=false:=by have:y.kind≠1:=by omega
                    simpa using this
 have b8:y.kind=2∨y.kind=3:=by omega
 have a6:=hI b8;clear hk T hp hl hu b8;go_enter func111,ntmps111;go_upto_region 1 with fail;generalize (((w.alloc _).alloc _).alloc _).alloc _=U at q g ⊢;have o0:=za q.bp 0 _ rfl;have o2:=za q.bo 2 _ rfl;obtain⟨p0,p1,p2,p3,p4,p5,p6,p7,p8,p9,d4,d5⟩:=zeW q.bp;have e3:=a6
 rcases a6 with k2|k3
 all_goals
  first|(have d2:(y.kind == 2)=true:=by simpa using k2)|(have d2:(y.kind == 2)=false:=by simpa using(show y.kind≠2 by omega))
  first|(have d3:(y.kind == 3)=true:=by simpa using k3)|skip
  first|clear k2|clear k3
  go_wp2_with fail;refine(zhA _ c y z N U (hB.below g) (hF.below g) HP (HI.below g) st c0).mono ?_;rintro e Y0 ⟨⟨la,Q,rfl,ho⟩,P⟩;clear o0 o2 p0 p1 p2 p3 p4 p5 p6 p7 p8 p9 d4 d5;have a5:=ze g P;have G:Below _ Y0 (Y0.alloc (.cells #[int i64 ((x.bkn:Int)+1),c,y.own,(la,y.lgn,Q),y.pe,y.len,y.hei,y.cl,y.all,y.be,st,y.unt,(zE ⟨y.pe,y.len,y.hei,y.cl,y.all,y.be⟩ y.lgn)] 150)):=zk bZ _;have l:Below _ _ ((Y0.alloc (.cells #[int i64 ((x.bkn:Int)+1),c,y.own,(la,y.lgn,Q),y.pe,y.len,y.hei,y.cl,y.all,y.be,st,y.unt,(zE ⟨y.pe,y.len,y.hei,y.cl,y.all,y.be⟩ y.lgn)] 150)).alloc (.cells #[int i64 ((x.bkn:Int)+1),c,y.own,(la,y.lgn,Q),y.pe,y.len,y.hei,y.cl,y.all,y.be,st,y.unt,(zE ⟨y.pe,y.len,y.hei,y.cl,y.all,y.be⟩ y.lgn)] 150)):=zk bZ _;have R:=hI (λi hi b e=>by have h1:=(((I.below g).bk.legs i hi).lt b e).2;exact h1)
  have J:=hI ((q.below P).below G);have bN:=Jb Y0 (.cells #[int i64 ((x.bkn:Int)+1),c,y.own,(la,y.lgn,Q),y.pe,y.len,y.hei,y.cl,y.all,y.be,st,y.unt,(zE ⟨y.pe,y.len,y.hei,y.cl,y.all,y.be⟩ y.lgn)] 150);have m:=hI (((I.below a5).below G).below l);have W:=hI (zo l (zo G ho));have O:=ze (ze a5 G) l;have c9:=g.size;have d0:=zM (q.below P).ba;go_upto_region 7 with fail;generalize hY1:Y0.alloc _=Y1 at J bN m W l O ⊢;generalize Y0.heap.size=nb at bN d0 ⊢;have b0:Hid (∀ j u,([_,_,_,_,_,_,_,_,_,_,_,_,_]:List Value)[j]?=_->(Y1.alloc (.cells #[int i64 ((x.bkn:Int)+1),c,y.own,(la,y.lgn,Q),y.pe,y.len,y.hei,y.cl,y.all,y.be,st,y.unt,(zE ⟨y.pe,y.len,y.hei,y.cl,y.all,y.be⟩ y.lgn)] 150)).cell? _=_):=Jo (Jb Y1 _);have M:=hI (J.below l);have b4:=zb bN l;have q2:=za J.bo 2 _ rfl;have V:=Jp b6 O.size;clear hY1 G P ho a5;refine wp_region_lit ?_;refine Go.Great.wpList_runTo rfl _ rfl _ _ (show _ from rfl) ?_;refine Go.Great.wpList_readTo rfl _ rfl (a3,x.bkn,c3) (by simp[execOp,q2,go_sem]) ?_
  refine wpList_load_row rfl _ _ rfl nb rfl _ _ _ _ bN underlying150 rfl Tryz.sizeBookingO ?_;refine Go.Great.wpList_buildSliceTo rfl _ _ 1 _ rfl _ rfl _ rfl underlying36 _ (Eq.trans (congrArg _ (show _ from by first|(simp[go_sem];done)|rfl|kernel_rfl)) (zeO ((x.bkn:Int)+1) c y.pe y.len y.hei y.cl y.be st y.unt (zE ⟨y.pe,y.len,y.hei,y.cl,y.all,y.be⟩ y.lgn) y.own y.all la y.lgn Q)) ?_
  clear q2;go_wp2_with (first|(at_builtin;refine wpList_append_lies _ (by rfl) (.tmp 33) (.tmp 35) 36 (by rfl) base 150 r0 (.agg #[int i64 0,int i64 0,.string ⟨#[]⟩,.slice none 0 0,int i64 0,int i64 0,int i64 0,int i64 0,.bool false,int i64 0,int i64 0,int i64 0,int i64 0]) 13 128 underlying36 ri d6 d7 d8 rfl (by decide) _ x.bkn (zbg x.bk E x.bkn) (by rfl) m.out.bk.row ⟨Y1.heap.size,0,none⟩ 1 1 [int i64 ((x.bkn:Int)+1),int i64 c,.string y.own,.slice la y.lgn Q,int i64 y.pe,int i64 y.len,int i64 y.hei,int i64 y.cl,.bool y.all,int i64 y.be,int i64 st,int i64 y.unt,int i64 (zE ⟨y.pe,y.len,y.hei,y.cl,y.all,y.be⟩ y.lgn)] (by rfl) (by rfl) b0.out (by intro u hu;simp at hu;rcases hu with rfl|rfl|rfl|rfl|rfl|rfl|rfl|rfl|rfl|rfl|rfl|rfl|rfl <;> rfl) (by decide) (by unfold maxLen;omega) (by omega) V _ rfl ?_;intro S d w3 b9 n _ _;have a4:=(qJ n).blk M.out.bo (λe=>by obtain⟨cs,e2⟩:=zA m.out.bk.row _ e;rw[M.out.bo] at e2;simp at e2);have z2:=za a4 2 _ rfl;have d9:=zg a4 2))
  have Y:=hI (M.out.row (qJ n) (λb e=>zA m.out.bk.row b e))
  have b5:=(qJ n).blk b4 (λe=>by have:=(I.bk.row.lt nb e).2;omega)
  have b7:bkC (zah x.bk x.bkn (Qf x.bkn c y)) (atV E x.bkn (.slice la y.lgn Q)) x.bkn=[int i64 ((x.bkn:Int)+1),int i64 c,.string y.own,.slice la y.lgn Q,int i64 y.pe,int i64 y.len,int i64 y.hei,int i64 y.cl,.bool y.all,int i64 y.be,int i64 st,int i64 y.unt,int i64 (zE ⟨y.pe,y.len,y.hei,y.cl,y.all,y.be⟩ y.lgn)]:=by unfold bkC;rw[ZL,qu,a9.out]
  have b1:=hI (m.addBk (nb:=Qf _ c y) R (by rw[a9.out];exact W) (Jp b6 c9) n (by rw[b7];exact b9))
  have p:=hI (b1.box ((zx.refl w3 (λb=>b=w.heap.size)).set (a:=(w.heap.size,2)) rfl (some (S,0),x.bkn+1,d)) Y.bo (by decide))
  have f:=hI (Y.putO (some (S,0),x.bkn+1,d));have a0:=zD (b':=w.heap.size) b5 2 (some (S,0),x.bkn+1,d) (by omega)
  have F:zx w (w3.setCell _ (some (S,0),x.bkn+1,d)) _:=keptO ((zx.of_below O).trans (qJ n)) ((zx.refl w3 (λb=>b=w.heap.size)).set (a:=(w.heap.size,2)) rfl _) (λb e=>by have e:=e;omega)
  clear z2 d9 a4 m W b0 M b4 O V J bN l Y b5 b7 b1 b9 n I R HI HP q g;generalize w3.setCell _ _=Z at p f a0 F ⊢;replace f:=hI (f.below (Ji _ Z).drew);replace p:=hI (p.below (Ji _ Z).drew);have H:=hI (zK a0);replace F:=F.trans (zx.of_below (Ji _ Z).drew);clear a0;refine qg 8 8 (λu=>u.cell? _=some (.slice s _ c1)/\u.cell? _=some (.slice t _ c2)/\u.cell? _=some (.slice _ _ d)/\u.cell? _=some (.int _ _)/\u.cell? _=some (.int _ _)) rfl (by kernel_rfl) (⟨za f.bo 0 _ rfl,za f.bo 1 _ rfl,za f.bo 2 _ rfl,za H 0 _ rfl,za H 12 _ rfl⟩) (λhS=>?_)
  simp only[List.replicate_succ,List.replicate_zero];generalize Z.drew=u8 at p f H F hS ⊢;have q:=f;have X:Hid _:=(QG u8 (w.heap.size+1+1) (s,x.san,c1) (t,x.ldn,c2) (some (S,0),x.bkn+1,d)).blk H (show ¬ nb=w.heap.size+1+1 by omega)
  have a8:Hid _:=(QH (qt u8 (w.heap.size+1+1) (.slice s x.san c1) (.slice t x.ldn c2) (.slice (some ⟨S,0,none⟩) (x.bkn+1) d)) (w.heap.size+1+1+1) (int i64 0) (int i64 ((x.bkn:Int)+1)) (int i64 (zE ⟨y.pe,y.len,y.hei,y.cl,y.all,y.be⟩ y.lgn)) (.slice none 0 0)).blk X.out (show ¬ nb=w.heap.size+1+1+1 by omega)
  iterate 6 (refine tFN 0 (v:=?_) rfl (by kernel_rfl) (λ_ _ _ h=>h) rfl (by assumption) ?_ ?_;rotate_left;(focus(intro w' h;(try dsimp only at h);go_simp;try with_reducible rfl));simp only[Act.put,sB,sZ,sS])
  have o:=hI (q.fin (s,x.san,c1) (t,x.ldn,c2) (some (S,0),x.bkn+1,d) () (int i64 ((x.bkn:Int)+1)) (zE ⟨y.pe,y.len,y.hei,y.cl,y.all,y.be⟩ y.lgn) True);obtain⟨r0,r1,r2⟩:=ce3 q.br;obtain⟨f0,f1,f2⟩:=fe3 q.br;refine zj (rs:=[6]) (by kernel_rfl) (by simp) ?_
  refine zc.consL rfl (λK hK=>?_) zc.nil
  go_simp;have k:=o.2.2;unfold qt at k;refine hK _ _ (⟨za k.1 0 _ rfl,za k.1 1 _ rfl,za k.1 2 _ rfl,za X 0 _ rfl,za X 12 _ rfl⟩) (λhS=>?_)
  clear hK K r0 f0 r1 f1 r2 f2;simp only[sZ,sS];obtain⟨r0,r1,r2,r3⟩:=ce4 k.2.2.1;obtain⟨f0,f1,f2,f3⟩:=fe4 k.2.2.1;refine zj (rs:=[7]) (by kernel_rfl) (by simp) ?_
  refine zc.consL rfl (λK hK=>?_) zc.nil
  go_simp;have r:=o.2.2.2.2.2;unfold ZK qt at r;refine hK _ _ (⟨za r.1 0 _ rfl,za r.1 1 _ rfl,za r.1 2 _ rfl,za a8 0 _ rfl,za a8 12 _ rfl⟩) (λhS=>?_)
  clear hK K r0 f0 r1 f1 r2 f2 r3 f3 k r;simp only[sZ,sS];refine zX (by kernel_rfl) ?_ _
  go_wp2;have Z3:=o.1;have Z4:=o.2.1;unfold ZK qt at Z3 Z4;obtain⟨z0,z1,z2⟩:=ce3 Z3;obtain⟨t0,t1,t2,t3⟩:=ce4 Z4;have a7:=lowK F (s,x.san,c1) (t,x.ldn,c2) (some (S,0),x.bkn+1,d) () (int i64 ((x.bkn:Int)+1)) (zE ⟨y.pe,y.len,y.hei,y.cl,y.all,y.be⟩ y.lgn) True;have b2:=(p.box (QG u8 _ _ _ _) f.br (by decide)).box (QH _ _ () (int i64 ((x.bkn:Int)+1)) (zE ⟨y.pe,y.len,y.hei,y.cl,y.all,y.be⟩ y.lgn) True) o.2.2.2.2.1 (by decide)
  unfold ZK qt at a7 b2;exact Jj (by simp[results,results111,go_sem,z0,z1,z2,t0,t1,t2,t3]) rfl ⟨⟨_,d,_,rfl,b2⟩,a7⟩
def zme (w:World)(base:Nat)(b a:ql)(d:Option Addr)(c:Nat)(la:Option Addr)(e:Nat):Prop :=
 (Value.slice la a.lgn e=.slice d b.lgn c/\a.lgn=b.lgn/\a.lg=b.lg)∨w.ownsRow base 3 1 (.slice la a.lgn e) a.lgn (zS a.lg a.lgn)
theorem zmf (b:ql)(c:Option Addr)(a:Nat)(d:Int)(y:OpD)(f:Option Addr)(g:Nat)(j:ql)(i:j=qx b d y)(w:World)(hk:4<=y.kind/\y.kind<=8)(l:y.kind=5->Zq w/\Zu w/\QU ⟨y.pe,y.len,y.hei,y.cl,y.all,y.be⟩ y.lgn/\zT w f y.lgn y.lg) :
  Calls prog 205 #[.agg (b,c,a),d,.agg (y,f,g)] w λe w'=>(∃ la lc,e=.returned (.agg (j,la,lc))/\zme w' w.heap.size b j c a la lc)/\Below w.heap.size w w':=by
 by_cases k4:y.kind=4
 ·obtain rfl:j={ b with state:=2,unt:=0 }:=by rw[i];unfold qx;rw[Jf k4]
  exact(changed_4 b c a d y f g w k4).mono λ_ _ ⟨e,h⟩=>⟨⟨c,a,e,.inl ⟨rfl,rfl,rfl⟩⟩,h⟩
 by_cases k5:y.kind=5
 ·obtain⟨h1,h2,h3,k⟩:=l k5
  obtain rfl:j={ b with who:=d,lgn:=y.lgn,lg:=y.lg,pe:=y.pe,len:=y.len,hei:=y.hei,cl:=y.cl,all:=y.all,be:=y.be,price:=_ }:=by rw[i];unfold qx;rw[Je k4,Jf k5]
  exact(changed_5 b c a d y f g w k5 h1 h2 h3 k).mono λ_ _ ⟨⟨la,lc,e,ho⟩,h⟩=>⟨⟨la,lc,e,.inr ho⟩,h⟩
 by_cases k6:y.kind=6
 ·obtain rfl:j={ b with state:=3,unt:=0 }:=by rw[i];unfold qx;rw[Je k4,Je k5,Jf k6]
  exact(changed_6 b c a d y f g w k6).mono λ_ _ ⟨e,h⟩=>⟨⟨c,a,e,.inl ⟨rfl,rfl,rfl⟩⟩,h⟩
 by_cases k7:y.kind=7
 ·obtain rfl:j={ b with own:=y.own }:=by rw[i];unfold qx;rw[Je k4,Je k5,Je k6,Jf k7]
  exact(changed_7 b c a d y f g w k7).mono λ_ _ ⟨e,h⟩=>⟨⟨c,a,e,.inl ⟨rfl,rfl,rfl⟩⟩,h⟩
 ·obtain rfl:j={ b with state:=4 }:=by rw[i];unfold qx;rw[Je k4,Je k5,Je k6,Je k7]
  exact(changed_8 b c a d y f g w (by omega)).mono λ_ _ ⟨e,h⟩=>⟨⟨c,a,e,.inl ⟨rfl,rfl,rfl⟩⟩,h⟩
theorem znN {d j:World}{base u gb c1 c2 c3 m f o:Nat}{p g la:Option Addr}{x:Off}{a:ql}{L C A B D E:Nat->Value}(y:Below d.heap.size d j)(l:zF d base (some (u,0),x.san,c1) (p,x.ldn,c2) (some (gb,0),x.bkn,c3) x.san x.ldn x.bkn x L C A B D E)(n:base<=d.heap.size)(t:m<x.bkn)(q:E m=.slice g (x.bk m).lgn f)(r:zme j d.heap.size (x.bk m) a g f la o) :
  zF (ziz j gb m (int i64 a.name) (int i64 a.who) (.string a.own) (.slice la a.lgn o) (int i64 a.pe) (int i64 a.len) (int i64 a.hei) (int i64 a.cl) (.bool a.all) (int i64 a.be) (int i64 a.state) (int i64 a.unt) (int i64 a.price)) base (.slice (some ⟨u,0,none⟩) x.san c1) (.slice p x.ldn c2) (.slice (some ⟨gb,0,none⟩) x.bkn c3) x.san x.ldn x.bkn { x with bk:=zah x.bk m a } L C A B D (atV E m (.slice la a.lgn o)):=by
 have c:=l.below y;refine c.putBk (zfb j gb m _ _ _ _ _ _ _ _ _ _ _ _ _) (zbs (zjV _ _ _ _ _ _ _ _ _ _ _ _ _ c.bk.row rfl) (by decide) (λi s=>?_)) ?_ ?_
 ·by_cases e:i=m
  ·subst e;rw[Jf rfl];unfold bkC;rw[ZL,qu]
  ·rw[Je e];unfold bkC;rw[zaf _ _ _ e,qf _ _ _ _ e]
 ·rcases r with⟨k,v,w⟩|h
  ·rw[k,v,w,← q];exact c.bk.legs m t
  ·exact zu h n
 ·rcases r with⟨k,_⟩|h
  ·rw[k,← q];exact l.bk.far_same t
  ·intro i s z b h1 h2
   have q1:=((l.bk.legs i s).lt b h1).2;have q2:=(h.lt b h2).1
   omega
theorem zkR (x:Off)(O:Option Addr)(H gb c1 c2 c3 base m k0:Nat)(L C A B D E:Nat->Value)(X:Int)(y:OpD)(I:Option Addr)(J:Nat)(w:World)(hk:4<=y.kind/\y.kind<=8)(e2:y.name=(m:Int)+1)(Q:m<x.bkn)(h6:x.bkn<=30)(g6:x.san<=1048576)(b0:0<(x.bk m).lgn)(d8:zW x.sa ((x.bk m).lg 0) x.san=k0)(h7:k0<x.san)
  (a8:In (x.sa k0).dep 0 1000000/\(y.kind=6->In y.now 0 1000000)) (hT:∀ V,Below base w V->Zq V/\Zu V) (h5:y.kind=5->QU ⟨y.pe,y.len,y.hei,y.cl,y.all,y.be⟩ y.lgn/\zT w I y.lgn y.lg) (a6:base<=w.heap.size) (G:zF w base (.slice (some ⟨H,0,none⟩) x.san c1) (.slice O x.ldn c2) (.slice (some ⟨gb,0,none⟩) x.bkn c3) x.san x.ldn x.bkn x L C A B D E) :
  Calls prog 111 #[.agg #[.slice (some ⟨H,0,none⟩) x.san c1,.slice O x.ldn c2,.slice (some ⟨gb,0,none⟩) x.bkn c3],int i64 X,.agg #[int i64 y.kind,.string y.own,int i64 y.name,.slice I y.lgn J,int i64 y.pe,int i64 y.len,int i64 y.hei,int i64 y.cl,.bool y.all,int i64 y.be,int i64 y.unt,int i64 y.now]] w λe w'=>(∃ E2,e=.returned (.tuple #[.agg #[.slice (some ⟨H,0,none⟩) x.san c1,.slice O x.ldn c2,.slice (some ⟨gb,0,none⟩) x.bkn c3],.agg #[int i64 0,int i64 ((m:Int)+1),int i64 (zne (x.bk m) (x.sa k0).dep y),.slice none 0 0]])/\zF w' base (.slice (some ⟨H,0,none⟩) x.san c1) (.slice O x.ldn c2) (.slice (some ⟨gb,0,none⟩) x.bkn c3) x.san x.ldn x.bkn { x with bk:=zah x.bk m (qx (x.bk m) X y) } L C A B D E2)/\zx w w' (λb=>b=gb):=by
 obtain⟨h4,F,eE,_,_,_⟩:=zp (G.bk.legs m Q);obtain⟨W,g2,_,e1⟩:=qh (by have h:=G.bk.legs m Q;rw[eE] at h;exact h) b0
 subst g2;have d7:base<=gb:=(G.bk.row.lt gb rfl).1;have h0:gb<w.heap.size:=(G.bk.row.lt gb rfl).2;have a1:Hid (∀ V d,d=qx (x.bk m) X y->Below w.heap.size w V->Calls prog 205 #[.agg #[int i64 (x.bk m).name,int i64 (x.bk m).who,.string (x.bk m).own,.slice (some ⟨W,0,none⟩) (x.bk m).lgn F,int i64 (x.bk m).pe,int i64 (x.bk m).len,int i64 (x.bk m).hei,int i64 (x.bk m).cl,.bool (x.bk m).all,int i64 (x.bk m).be,int i64 (x.bk m).state,int i64 (x.bk m).unt,int i64 (x.bk m).price],int i64 X,.agg #[int i64 y.kind,.string y.own,int i64 y.name,.slice I y.lgn J,int i64 y.pe,int i64 y.len,int i64 y.hei,int i64 y.cl,.bool y.all,int i64 y.be,int i64 y.unt,int i64 y.now]] V λe w'=>(∃ la lc,e=.returned (.agg #[int i64 d.name,int i64 d.who,.string d.own,.slice la d.lgn lc,int i64 d.pe,int i64 d.len,int i64 d.hei,int i64 d.cl,.bool d.all,int i64 d.be,int i64 d.state,int i64 d.unt,int i64 d.price])/\zme w' V.heap.size (x.bk m) d (some ⟨W,0,none⟩) F la lc)/\Below V.heap.size V w'):=λV d he hb=>zmf (x.bk m) _ F X y I J d he V hk (λh=>⟨(hT V (hb.mono a6)).1,(hT V (hb.mono a6)).2,(h5 h).1,(h5 h).2.below hb⟩)
 have a5:Hid (∀ V,Below base w V->Calls prog 206 #[.agg #[int i64 (x.bk m).name,int i64 (x.bk m).who,.string (x.bk m).own,.slice (some ⟨W,0,none⟩) (x.bk m).lgn F,int i64 (x.bk m).pe,int i64 (x.bk m).len,int i64 (x.bk m).hei,int i64 (x.bk m).cl,.bool (x.bk m).all,int i64 (x.bk m).be,int i64 (x.bk m).state,int i64 (x.bk m).unt,int i64 (x.bk m).price],int i64 (x.sa k0).dep,.agg #[int i64 y.kind,.string y.own,int i64 y.name,.slice I y.lgn J,int i64 y.pe,int i64 y.len,int i64 y.hei,int i64 y.cl,.bool y.all,int i64 y.be,int i64 y.unt,int i64 y.now]] V λe w'=>e=.returned (int i64 (zne (x.bk m) (x.sa k0).dep y))/\Below V.heap.size V w'):=λV hb=>told_any (x.bk m) _ F (x.sa k0).dep y I J V (hT V hb).1 (hT V hb).2 (λh=>(h5 h).1) a8
 have a4:=hI G;have e7:Hid (∀ z:World,Below w.heap.size w z->qB z (some ⟨H,0,none⟩) x.san x.sa):=λz hz=>(G.sa.below hz).at
 have b5:=hI d8;obtain⟨td,b2⟩:∃ q,q=(zne (x.bk m) (x.sa k0).dep y):=⟨_,rfl⟩;have e8:=hI b2;rw[← b2] at a5;obtain⟨d,d6⟩:∃ q,q=qx (x.bk m) X y:=⟨_,rfl⟩;have b4:=hI d6;obtain⟨b,Z⟩:∃ b,b=x.bk m:=⟨_,rfl⟩;have b3:=hI Z;rw[← Z] at a1 a5 b5 b0;have d0:w.cell? ⟨W,0,none⟩=some (int i64 (b.lg 0)):=by
  have h:=G.bk.legs m Q;rw[eE] at h;have:=zbo h 0 (by rw[← Z];exact b0)
  obtain⟨q1,q2,q3,q4⟩:=this
  cases q3
  rw[Z]
  simpa using q4
 have b6:Hid (∀ z:World,Below w.heap.size w z->z.cell? ⟨W,0,none⟩=some (int i64 (b.lg 0))):=λz hz=>(hz.cell (p:=⟨W,0,none⟩) e1).trans d0
 have d4:bkC x.bk E m=[int i64 b.name,int i64 b.who,.string b.own,.slice (some ⟨W,0,none⟩) b.lgn F,int i64 b.pe,int i64 b.len,int i64 b.hei,int i64 b.cl,.bool b.all,int i64 b.be,int i64 b.state,int i64 b.unt,int i64 b.price]:=by unfold bkC;rw[eE,← Z]
 have e3:=hI d4;have e6:=hI eE;rw[e2] at a1 a5 ⊢;have d1:(y.kind == 1)=false:=by simpa using(show y.kind≠1 by omega)
 have d2:(y.kind == 2)=false:=by simpa using(show y.kind≠2 by omega)
 have d3:(y.kind == 3)=false:=by simpa using(show y.kind≠3 by omega)
 have d9:(y.kind == 9)=false:=by simpa using(show y.kind≠9 by omega)
 have i4:IntKind.i64.wrap ((m:Int)+1 - 1)=(m:Int):=by rw[Jk];omega
 have i3:IntKind.i64.wrap (m:Int)=(m:Int):=by rw[Jk];omega
 have i0:(0:Int)<=(m:Int):=by omega
 have i1:(m:Int)<(x.bkn:Int):=by omega
 have i2:(0:Int)<(b.lgn:Int):=by omega
 have f:Hid _:=zfS.start w (.slice (some ⟨H,0,none⟩) x.san c1) (.slice O x.ldn c2) (.slice (some ⟨gb,0,none⟩) x.bkn c3) #[int i64 y.kind,.string y.own,int i64 ((m:Int)+1),.slice I y.lgn J,int i64 y.pe,int i64 y.len,int i64 y.hei,int i64 y.cl,.bool y.all,int i64 y.be,int i64 y.unt,int i64 y.now];have i:Below w.heap.size w ((((w.alloc (.cells #[(some (H,0),x.san,c1),(O,x.ldn,c2),(some (gb,0),x.bkn,c3)] 38)).alloc (.cells #[y.kind,y.own,int i64 ((m:Int)+1),(I,y.lgn,J),y.pe,y.len,y.hei,y.cl,y.all,y.be,y.unt,y.now] 47)).alloc (.cells #[True,True,True] 38)).alloc (.cells #[(),(),(),True] 41)):=zk (zk (zk (zk bZ _) _) _) _;clear hk e2 d8 a8 hT h5 G eE Z b2 d6 d0 d4;go_enter func111,ntmps111;go_upto_region 1 with fail;generalize (((w.alloc (.cells #[(some (H,0),x.san,c1),(O,x.ldn,c2),(some (gb,0),x.bkn,c3)] 38)).alloc (.cells #[y.kind,y.own,int i64 ((m:Int)+1),(I,y.lgn,J),y.pe,y.len,y.hei,y.cl,y.all,y.be,y.unt,y.now] 47)).alloc (.cells #[True,True,True] 38)).alloc (.cells #[(),(),(),True] 41)=U at f i ⊢;have hr:∀ r,r<13->U.cell? ⟨gb,m*13+r,none⟩=some ((bkC x.bk E m).getD r (.bool false)):=λr hr=>by rw[zs (a4.out.below i).bk.row (m*13+r) (by omega) rfl,zC 13 _ m r hr]
 rw[e3.out] at hr;have c0:U.cell? ⟨gb,m*13,none⟩=some (int i64 b.name):=hr 0 (by decide)
 have c1:U.cell? ⟨gb,m*13+1,none⟩=some (int i64 b.who):=hr 1 (by decide)
 have c2:U.cell? ⟨gb,m*13+2,none⟩=some (.string b.own):=hr 2 (by decide)
 have c3:U.cell? ⟨gb,m*13+3,none⟩=some (.slice (some ⟨W,0,none⟩) b.lgn F):=hr 3 (by decide)
 have c4:U.cell? ⟨gb,m*13+4,none⟩=some (int i64 b.pe):=hr 4 (by decide)
 have c5:U.cell? ⟨gb,m*13+5,none⟩=some (int i64 b.len):=hr 5 (by decide)
 have c6:U.cell? ⟨gb,m*13+6,none⟩=some (int i64 b.hei):=hr 6 (by decide)
 have c7:U.cell? ⟨gb,m*13+7,none⟩=some (int i64 b.cl):=hr 7 (by decide)
 have c8:U.cell? ⟨gb,m*13+8,none⟩=some (.bool b.all):=hr 8 (by decide)
 have c9:U.cell? ⟨gb,m*13+9,none⟩=some (int i64 b.be):=hr 9 (by decide)
 have e9:U.cell? ⟨gb,m*13+10,none⟩=some (int i64 b.state):=hr 10 (by decide)
 have g0:U.cell? ⟨gb,m*13+11,none⟩=some (int i64 b.unt):=hr 11 (by decide)
 have g1:U.cell? ⟨gb,m*13+12,none⟩=some (int i64 b.price):=hr 12 (by decide)
 have o0:=za f.out.bp 0 _ rfl;have o2:=za f.out.bp 2 _ rfl;have q2:=za f.out.bo 2 _ rfl;have bX:=Jb U (.cells (b,some (W,0),F) 150);have b1:Below U.heap.size U (U.alloc (.cells (b,some (W,0),F) 150)):=zk bZ _;have d5:w.heap.size+1+1+1<U.heap.size:=zM f.out.ba;replace f:Hid _:=f.out.below b1;replace i:=ze i b1;go_upto_region 13 with fail;generalize U.alloc (.cells (b,some (W,0),F) 150)=Y at bX f i ⊢;generalize U.heap.size=o at bX d5 ⊢;clear hr b1 o0 o2 q2 c0 c1 c2 c3 c4 c5 c6 c7 c8 c9 e9 g0 g1;replace f:Hid _:=f.out.below (Ji _ Y).drew;have k:Hid _:=zK bX;replace i:=i.drew;clear bX;refine qg 12 12 (λu=>u.cell? ⟨w.heap.size,0,none⟩=some (.slice (some ⟨H,0,none⟩) x.san c1)/\u.cell? ⟨o,3,none⟩=some (.slice (some ⟨W,0,none⟩) b.lgn F)/\u.cell? ⟨W,0,none⟩=some (int i64 (b.lg 0))) rfl (by kernel_rfl) ⟨za f.out.bo 0 _ rfl,za k.out 3 _ rfl,b6.out _ i⟩ (λhS=>?_)
 simp only[List.replicate_succ,List.replicate_zero];generalize Y.drew=u0 at f k i hS ⊢
 iterate 6 (refine tFN 0 (v:=?_) rfl (by kernel_rfl) (λ_ _ _ h=>h) rfl (by assumption) ?_ ?_;rotate_left;(focus(intro w' h;(try dsimp only at h);go_simp;try with_reducible rfl));simp only[Act.put,sB,sZ,sS])
 refine zj (rs:=[6]) (by kernel_rfl) (by simp) ?_
 refine zc.consL rfl (λK P=>?_) zc.nil
 go_simp;go_at_call 198;refine Jm (zaF (some ⟨H,0,none⟩) x.san c1 x.sa (b.lg 0) u0 g6 (e7.out _ i)) ?_;rintro e u1 ⟨a7,l⟩;replace a7:e=.returned (.tuple #[int i64 (k0:Int),.bool true]):=by
  rw[b5.out] at a7
  rcases a7 with⟨_,q⟩|⟨q,_⟩
  ·exact q
  ·omega
 subst a7;dsimp only;replace f:Hid _:=f.out.below l;replace k:Hid _:=zb k.out l;replace i:=ze i l;refine P.out _ _ ⟨za f.out.bo 0 _ rfl,za k.out 3 _ rfl,b6.out _ i⟩ (λhS=>?_)
 clear P K l;simp only[sZ,sS]
 iterate 5 (refine tFN 7 (v:=?_) rfl (by kernel_rfl) (λ_ _ _ h=>h) rfl (by assumption) ?_ ?_;rotate_left;(focus(intro w' h;(try dsimp only at h);go_simp;try with_reducible rfl));simp only[Act.put,sB,sZ,sS])
 refine zX (by kernel_rfl) ?_ _
 go_upto_region 14 with fail;replace f:Hid _:=f.out.below (Ji _ u1).drew;replace k:Hid _:=zK k.out;replace i:=i.drew;refine qg 11 11 (λu=>u.cell? ⟨w.heap.size,2,none⟩=some (.slice (some ⟨gb,0,none⟩) x.bkn c3)/\u.cell? ⟨w.heap.size+1,0,none⟩=some (int i64 y.kind)/\u.cell? ⟨w.heap.size+1,1,none⟩=some (.string y.own)/\u.cell? ⟨w.heap.size+1,2,none⟩=some (int i64 ((m:Int)+1))/\u.cell? ⟨w.heap.size+1,3,none⟩=some (.slice I y.lgn J)/\u.cell? ⟨w.heap.size+1,4,none⟩=some (int i64 y.pe)/\u.cell? ⟨w.heap.size+1,5,none⟩=some (int i64 y.len)/\u.cell? ⟨w.heap.size+1,6,none⟩=some (int i64 y.hei)/\u.cell? ⟨w.heap.size+1,7,none⟩=some (int i64 y.cl)/\u.cell? ⟨w.heap.size+1,8,none⟩=some (.bool y.all)/\u.cell? ⟨w.heap.size+1,9,none⟩=some (int i64 y.be)/\u.cell? ⟨w.heap.size+1,10,none⟩=some (int i64 y.unt)/\u.cell? ⟨w.heap.size+1,11,none⟩=some (int i64 y.now)/\u.cell? ⟨o,0,none⟩=some (int i64 b.name)/\u.cell? ⟨o,1,none⟩=some (int i64 b.who)/\u.cell? ⟨o,2,none⟩=some (.string b.own)/\u.cell? ⟨o,3,none⟩=some (.slice (some ⟨W,0,none⟩) b.lgn F)/\u.cell? ⟨o,4,none⟩=some (int i64 b.pe)/\u.cell? ⟨o,5,none⟩=some (int i64 b.len)/\u.cell? ⟨o,6,none⟩=some (int i64 b.hei)/\u.cell? ⟨o,7,none⟩=some (int i64 b.cl)/\u.cell? ⟨o,8,none⟩=some (.bool b.all)/\u.cell? ⟨o,9,none⟩=some (int i64 b.be)/\u.cell? ⟨o,10,none⟩=some (int i64 b.state)/\u.cell? ⟨o,11,none⟩=some (int i64 b.unt)/\u.cell? ⟨o,12,none⟩=some (int i64 b.price)) rfl (by kernel_rfl) (⟨za f.out.bo 2 _ rfl,za f.out.bp 0 _ rfl,za f.out.bp 1 _ rfl,za f.out.bp 2 _ rfl,za f.out.bp 3 _ rfl,za f.out.bp 4 _ rfl,za f.out.bp 5 _ rfl,za f.out.bp 6 _ rfl,za f.out.bp 7 _ rfl,za f.out.bp 8 _ rfl,za f.out.bp 9 _ rfl,za f.out.bp 10 _ rfl,za f.out.bp 11 _ rfl,za k.out 0 _ rfl,za k.out 1 _ rfl,za k.out 2 _ rfl,za k.out 3 _ rfl,za k.out 4 _ rfl,za k.out 5 _ rfl,za k.out 6 _ rfl,za k.out 7 _ rfl,za k.out 8 _ rfl,za k.out 9 _ rfl,za k.out 10 _ rfl,za k.out 11 _ rfl,za k.out 12 _ rfl⟩) (λhS=>?_)
 simp only[List.replicate_succ,List.replicate_zero];generalize u1.drew=u2 at f k i hS ⊢
 iterate 8 (refine tFN 0 (v:=?_) rfl (by kernel_rfl) (λ_ _ _ h=>h) rfl (by assumption) ?_ ?_;rotate_left;(focus(intro w' h;(try dsimp only at h);go_simp;try with_reducible rfl));simp only[Act.put,sB,sZ,sS])
 refine zj (rs:=[8]) (by kernel_rfl) (by simp) ?_
 refine zc.consL rfl (λK P=>?_) zc.nil
 go_simp;go_at_call 205;refine Jm (a1.out u2 d (by rw[b3.out];exact b4.out) i) ?_
 rintro e u3 ⟨⟨la,lc,rfl,e0⟩,l⟩;dsimp only;have N:Hid _:=znN l (a4.out.below i) (Jp a6 i.size) Q e6.out (by rw[← b3.out];exact e0)
 have g:Hid _:=((a4.out.below i).below l).bk.row;replace f:Hid _:=f.out.below l;replace k:Hid _:=zb k.out l;replace i:=ze i l;refine P.out _ _ (⟨za f.out.bo 2 _ rfl,za f.out.bp 0 _ rfl,za f.out.bp 1 _ rfl,za f.out.bp 2 _ rfl,za f.out.bp 3 _ rfl,za f.out.bp 4 _ rfl,za f.out.bp 5 _ rfl,za f.out.bp 6 _ rfl,za f.out.bp 7 _ rfl,za f.out.bp 8 _ rfl,za f.out.bp 9 _ rfl,za f.out.bp 10 _ rfl,za f.out.bp 11 _ rfl,za k.out 0 _ rfl,za k.out 1 _ rfl,za k.out 2 _ rfl,za k.out 3 _ rfl,za k.out 4 _ rfl,za k.out 5 _ rfl,za k.out 6 _ rfl,za k.out 7 _ rfl,za k.out 8 _ rfl,za k.out 9 _ rfl,za k.out 10 _ rfl,za k.out 11 _ rfl,za k.out 12 _ rfl⟩) (λhS=>?_)
 clear P K l e0;simp only[sZ,sS]
 (refine tFN 9 (v:=?_) rfl (by kernel_rfl) (λ_ _ _ h=>h) rfl (by assumption) ?_ ?_;rotate_left;(focus(intro w' h;(try dsimp only at h);go_simp;try with_reducible rfl));simp only[Act.put,sB,sZ,sS])
 have R:Hid _:=zfb u3 gb m (int i64 d.name) (int i64 d.who) (.string d.own) (.slice la d.lgn lc) (int i64 d.pe) (int i64 d.len) (int i64 d.hei) (int i64 d.cl) (.bool d.all) (int i64 d.be) (int i64 d.state) (int i64 d.unt) (int i64 d.price);have a:Hid (zfS w (ziz u3 gb m (int i64 d.name) (int i64 d.who) (.string d.own) (.slice la d.lgn lc) (int i64 d.pe) (int i64 d.len) (int i64 d.hei) (int i64 d.cl) (.bool d.all) (int i64 d.be) (int i64 d.state) (int i64 d.unt) (int i64 d.price)) (.slice (some ⟨H,0,none⟩) x.san c1) (.slice O x.ldn c2) (.slice (some ⟨gb,0,none⟩) x.bkn c3) #[int i64 y.kind,.string y.own,int i64 ((m:Int)+1),.slice I y.lgn J,int i64 y.pe,int i64 y.len,int i64 y.hei,int i64 y.cl,.bool y.all,int i64 y.be,int i64 y.unt,int i64 y.now]):=⟨R.out.blk f.out.bo (by show ¬ _=_;omega),R.out.blk f.out.bp (by show ¬ _=_;omega),R.out.blk f.out.br (by show ¬ _=_;omega),R.out.blk f.out.ba (by show ¬ _=_;omega)⟩
 have c:Hid _:=R.out.blk k.out (show ¬ o=gb by omega)
 have M:=hI ((zx.of_below i).trans R.out);obtain⟨v0,o0⟩:∃ v,u3.cell? ⟨gb,m*13+0,none⟩=some v:=⟨_,zU g.out Q (by decide)⟩
 have f0:=Jn g.out (m*13);obtain⟨v1,o1⟩:∃ v,u3.cell? ⟨gb,m*13+1,none⟩=some v:=⟨_,zU g.out Q (by decide)⟩
 have f1:=Jn g.out (m*13+1);obtain⟨v2,o2⟩:∃ v,u3.cell? ⟨gb,m*13+2,none⟩=some v:=⟨_,zU g.out Q (by decide)⟩
 have f2:=Jn g.out (m*13+2);obtain⟨v3,o3⟩:∃ v,u3.cell? ⟨gb,m*13+3,none⟩=some v:=⟨_,zU g.out Q (by decide)⟩
 have f3:=Jn g.out (m*13+3);obtain⟨v4,o4⟩:∃ v,u3.cell? ⟨gb,m*13+4,none⟩=some v:=⟨_,zU g.out Q (by decide)⟩
 have f4:=Jn g.out (m*13+4);obtain⟨v5,o5⟩:∃ v,u3.cell? ⟨gb,m*13+5,none⟩=some v:=⟨_,zU g.out Q (by decide)⟩
 have f5:=Jn g.out (m*13+5);obtain⟨v6,o6⟩:∃ v,u3.cell? ⟨gb,m*13+6,none⟩=some v:=⟨_,zU g.out Q (by decide)⟩
 have f6:=Jn g.out (m*13+6);obtain⟨v7,o7⟩:∃ v,u3.cell? ⟨gb,m*13+7,none⟩=some v:=⟨_,zU g.out Q (by decide)⟩
 have f7:=Jn g.out (m*13+7);obtain⟨v8,o8⟩:∃ v,u3.cell? ⟨gb,m*13+8,none⟩=some v:=⟨_,zU g.out Q (by decide)⟩
 have f8:=Jn g.out (m*13+8);obtain⟨v9,o9⟩:∃ v,u3.cell? ⟨gb,m*13+9,none⟩=some v:=⟨_,zU g.out Q (by decide)⟩
 have f9:=Jn g.out (m*13+9);obtain⟨i5,g7⟩:∃ v,u3.cell? ⟨gb,m*13+10,none⟩=some v:=⟨_,zU g.out Q (by decide)⟩
 have g3:=Jn g.out (m*13+10);obtain⟨i6,g8⟩:∃ v,u3.cell? ⟨gb,m*13+11,none⟩=some v:=⟨_,zU g.out Q (by decide)⟩
 have g4:=Jn g.out (m*13+11);obtain⟨i7,g9⟩:∃ v,u3.cell? ⟨gb,m*13+12,none⟩=some v:=⟨_,zU g.out Q (by decide)⟩
 have g5:=Jn g.out (m*13+12);rw[Nat.add_zero] at o0;refine zj (rs:=[10]) (by kernel_rfl) (by simp) ?_
 refine zc.consL rfl (λK P=>?_) zc.nil
 go_simp;have S:=a.out;have T:=c.out;unfold ziz at S T;refine P.out _ _ (⟨za S.bo 2 _ rfl,za S.bp 0 _ rfl,za S.bp 1 _ rfl,za S.bp 2 _ rfl,za S.bp 3 _ rfl,za S.bp 4 _ rfl,za S.bp 5 _ rfl,za S.bp 6 _ rfl,za S.bp 7 _ rfl,za S.bp 8 _ rfl,za S.bp 9 _ rfl,za S.bp 10 _ rfl,za S.bp 11 _ rfl,za T 0 _ rfl,za T 1 _ rfl,za T 2 _ rfl,za T 3 _ rfl,za T 4 _ rfl,za T 5 _ rfl,za T 6 _ rfl,za T 7 _ rfl,za T 8 _ rfl,za T 9 _ rfl,za T 10 _ rfl,za T 11 _ rfl,za T 12 _ rfl⟩) (λhS=>?_)
 clear P K S T o0 f0 o1 f1 o2 f2 o3 f3 o4 f4 o5 f5 o6 f6 o7 f7 o8 f8 o9 f9 g7 g3 g8 g4 g9 g5;simp only[sZ,sS];refine zX (by kernel_rfl) ?_ _
 unfold ziz at N a c M;generalize ((((((((((((u3.setCell (gb,m*13) d.name).setCell (gb,m*13+1) d.who).setCell (gb,m*13+2) d.own).setCell (gb,m*13+3) (la,d.lgn,lc)).setCell (gb,m*13+4) d.pe).setCell (gb,m*13+5) d.len).setCell (gb,m*13+6) d.hei).setCell (gb,m*13+7) d.cl).setCell (gb,m*13+8) d.all).setCell (gb,m*13+9) d.be).setCell (gb,m*13+10) d.state).setCell (gb,m*13+11) d.unt).setCell (gb,m*13+12) d.price=U4 at N a c M ⊢;clear f k i R g a4 a1;go_upto_region 15 with fail;replace a:Hid _:=a.out.below (Ji _ U4).drew;replace N:Hid _:=N.out.below (Ji _ U4).drew;replace c:Hid _:=zK c.out;replace M:Hid _:=M.out.trans (zx.of_below (Ji _ U4).drew);have a0:Hid (∀ z,Below U4.drew.heap.size U4.drew z->z.cell? ⟨H,k0*8+3,none⟩=some (int i64 (x.sa k0).dep)):=λz hz=>by
  have h:=zs (N.out.below hz).sa.row (k0*8+3) (by omega) rfl
  rw[h];unfold qz;rw[Je (by omega),Je (by omega),Je (by omega),Jf (by omega),show(k0*8+3) / 8=k0 by omega]
 refine qg 15 15 (λu=>u.cell? ⟨w.heap.size,0,none⟩=some (.slice (some ⟨H,0,none⟩) x.san c1)/\u.cell? ⟨w.heap.size,1,none⟩=some (.slice O x.ldn c2)/\u.cell? ⟨w.heap.size,2,none⟩=some (.slice (some ⟨gb,0,none⟩) x.bkn c3)/\u.cell? ⟨w.heap.size+1,0,none⟩=some (int i64 y.kind)/\u.cell? ⟨w.heap.size+1,1,none⟩=some (.string y.own)/\u.cell? ⟨w.heap.size+1,2,none⟩=some (int i64 ((m:Int)+1))/\u.cell? ⟨w.heap.size+1,3,none⟩=some (.slice I y.lgn J)/\u.cell? ⟨w.heap.size+1,4,none⟩=some (int i64 y.pe)/\u.cell? ⟨w.heap.size+1,5,none⟩=some (int i64 y.len)/\u.cell? ⟨w.heap.size+1,6,none⟩=some (int i64 y.hei)/\u.cell? ⟨w.heap.size+1,7,none⟩=some (int i64 y.cl)/\u.cell? ⟨w.heap.size+1,8,none⟩=some (.bool y.all)/\u.cell? ⟨w.heap.size+1,9,none⟩=some (int i64 y.be)/\u.cell? ⟨w.heap.size+1,10,none⟩=some (int i64 y.unt)/\u.cell? ⟨w.heap.size+1,11,none⟩=some (int i64 y.now)/\u.cell? ⟨o,0,none⟩=some (int i64 b.name)/\u.cell? ⟨o,1,none⟩=some (int i64 b.who)/\u.cell? ⟨o,2,none⟩=some (.string b.own)/\u.cell? ⟨o,3,none⟩=some (.slice (some ⟨W,0,none⟩) b.lgn F)/\u.cell? ⟨o,4,none⟩=some (int i64 b.pe)/\u.cell? ⟨o,5,none⟩=some (int i64 b.len)/\u.cell? ⟨o,6,none⟩=some (int i64 b.hei)/\u.cell? ⟨o,7,none⟩=some (int i64 b.cl)/\u.cell? ⟨o,8,none⟩=some (.bool b.all)/\u.cell? ⟨o,9,none⟩=some (int i64 b.be)/\u.cell? ⟨o,10,none⟩=some (int i64 b.state)/\u.cell? ⟨o,11,none⟩=some (int i64 b.unt)/\u.cell? ⟨o,12,none⟩=some (int i64 b.price)/\u.cell? ⟨H,k0*8+3,none⟩=some (int i64 (x.sa k0).dep)) rfl (by kernel_rfl) (⟨za a.out.bo 0 _ rfl,za a.out.bo 1 _ rfl,za a.out.bo 2 _ rfl,za a.out.bp 0 _ rfl,za a.out.bp 1 _ rfl,za a.out.bp 2 _ rfl,za a.out.bp 3 _ rfl,za a.out.bp 4 _ rfl,za a.out.bp 5 _ rfl,za a.out.bp 6 _ rfl,za a.out.bp 7 _ rfl,za a.out.bp 8 _ rfl,za a.out.bp 9 _ rfl,za a.out.bp 10 _ rfl,za a.out.bp 11 _ rfl,za c.out 0 _ rfl,za c.out 1 _ rfl,za c.out 2 _ rfl,za c.out 3 _ rfl,za c.out 4 _ rfl,za c.out 5 _ rfl,za c.out 6 _ rfl,za c.out 7 _ rfl,za c.out 8 _ rfl,za c.out 9 _ rfl,za c.out 10 _ rfl,za c.out 11 _ rfl,za c.out 12 _ rfl,a0.out _ bZ⟩) (λhS=>?_)
 simp only[List.replicate_succ,List.replicate_zero];generalize U4.drew=u5 at a c N M a0 hS ⊢
 iterate 11 (refine tFN 0 (v:=?_) rfl (by kernel_rfl) (λ_ _ _ h=>h) rfl (by assumption) ?_ ?_;rotate_left;(focus(intro w' h;(try dsimp only at h);go_simp;try with_reducible rfl));simp only[Act.put,sB,sZ,sS])
 refine zj (rs:=[11]) (by kernel_rfl) (by simp) ?_
 refine zc.consL rfl (λK P=>?_) zc.nil
 go_simp;go_at_call 206;refine Jm (a5.out u5 (zx.below bZ a6 M.out (λb e=>by rw[show b=gb from e];exact d7))) ?_
 rintro e u6 ⟨rfl,l⟩;dsimp only;replace a:Hid _:=a.out.below l;replace N:Hid _:=N.out.below l;replace c:Hid _:=zb c.out l;replace M:Hid _:=M.out.trans (zx.of_below l);replace a0:Hid _:=a0.out u6 l;refine P.out _ _ (⟨za a.out.bo 0 _ rfl,za a.out.bo 1 _ rfl,za a.out.bo 2 _ rfl,za a.out.bp 0 _ rfl,za a.out.bp 1 _ rfl,za a.out.bp 2 _ rfl,za a.out.bp 3 _ rfl,za a.out.bp 4 _ rfl,za a.out.bp 5 _ rfl,za a.out.bp 6 _ rfl,za a.out.bp 7 _ rfl,za a.out.bp 8 _ rfl,za a.out.bp 9 _ rfl,za a.out.bp 10 _ rfl,za a.out.bp 11 _ rfl,za c.out 0 _ rfl,za c.out 1 _ rfl,za c.out 2 _ rfl,za c.out 3 _ rfl,za c.out 4 _ rfl,za c.out 5 _ rfl,za c.out 6 _ rfl,za c.out 7 _ rfl,za c.out 8 _ rfl,za c.out 9 _ rfl,za c.out 10 _ rfl,za c.out 11 _ rfl,za c.out 12 _ rfl,a0.out⟩) (λhS=>?_)
 clear P K l;simp only[sZ,sS]
 (refine tFN 12 (v:=?_) rfl (by kernel_rfl) (λ_ _ _ h=>h) rfl (by assumption) ?_ ?_;rotate_left;(focus(intro w' h;(try dsimp only at h);go_simp;try with_reducible rfl));simp only[Act.put,sB,sZ,sS])
 have f:=a;have s:Hid _:=(QG u6 (w.heap.size+1+1) (.slice (some ⟨H,0,none⟩) x.san c1) (.slice O x.ldn c2) (.slice (some ⟨gb,0,none⟩) x.bkn c3)).blk c.out (show ¬ o=w.heap.size+1+1 by omega)
 have t:Hid _:=(QH (qt u6 (w.heap.size+1+1) (.slice (some ⟨H,0,none⟩) x.san c1) (.slice O x.ldn c2) (.slice (some ⟨gb,0,none⟩) x.bkn c3)) (w.heap.size+1+1+1) (int i64 0) (int i64 ((m:Int)+1)) (int i64 td) (.slice none 0 0)).blk s.out (show ¬ o=w.heap.size+1+1+1 by omega)
 have b8:Hid _:=N.out.box (QG u6 (w.heap.size+1+1) (.slice (some ⟨H,0,none⟩) x.san c1) (.slice O x.ldn c2) (.slice (some ⟨gb,0,none⟩) x.bkn c3)) f.out.br (by decide)
 have b9:Hid _:=b8.out.box (QH (qt u6 (w.heap.size+1+1) (.slice (some ⟨H,0,none⟩) x.san c1) (.slice O x.ldn c2) (.slice (some ⟨gb,0,none⟩) x.bkn c3)) (w.heap.size+1+1+1) (int i64 0) (int i64 ((m:Int)+1)) (int i64 td) (.slice none 0 0)) (f.out.fin (.slice (some ⟨H,0,none⟩) x.san c1) (.slice O x.ldn c2) (.slice (some ⟨gb,0,none⟩) x.bkn c3) (int i64 0) (int i64 ((m:Int)+1)) (int i64 td) (.slice none 0 0)).2.2.2.2.1 (by decide)
 have e4:Hid ((qt u6 (w.heap.size+1+1) (.slice (some ⟨H,0,none⟩) x.san c1) (.slice O x.ldn c2) (.slice (some ⟨gb,0,none⟩) x.bkn c3)).cell? ⟨H,k0*8+3,none⟩=some (int i64 (x.sa k0).dep)):=by
  have h:=zs b8.out.sa.row (k0*8+3) (by omega) rfl
  refine h.trans ?_;unfold qz;rw[Je (by omega),Je (by omega),Je (by omega),Jf (by omega),show(k0*8+3) / 8=k0 by omega]
 have e5:Hid ((ZK (qt u6 (w.heap.size+1+1) (.slice (some ⟨H,0,none⟩) x.san c1) (.slice O x.ldn c2) (.slice (some ⟨gb,0,none⟩) x.bkn c3)) (w.heap.size+1+1+1) (int i64 0) (int i64 ((m:Int)+1)) (int i64 td) (.slice none 0 0)).cell? ⟨H,k0*8+3,none⟩=some (int i64 (x.sa k0).dep)):=by
  have h:=zs b9.out.sa.row (k0*8+3) (by omega) rfl
  refine h.trans ?_;unfold qz;rw[Je (by omega),Je (by omega),Je (by omega),Jf (by omega),show(k0*8+3) / 8=k0 by omega]
 have a3:Hid _:=f.out.fin (.slice (some ⟨H,0,none⟩) x.san c1) (.slice O x.ldn c2) (.slice (some ⟨gb,0,none⟩) x.bkn c3) (int i64 0) (int i64 ((m:Int)+1)) (int i64 td) (.slice none 0 0);obtain⟨r0,r1,r2⟩:=ce3 f.out.br;obtain⟨f0,f1,f2⟩:=fe3 f.out.br;refine zj (rs:=[13]) (by kernel_rfl) (by simp) ?_
 refine zc.consL rfl (λK P=>?_) zc.nil
 go_simp;have j:=a3.out.2.2;unfold qt at j;refine P.out _ _ (⟨za j.1 0 _ rfl,za j.1 1 _ rfl,za j.1 2 _ rfl,za j.2.1 0 _ rfl,za j.2.1 1 _ rfl,za j.2.1 2 _ rfl,za j.2.1 3 _ rfl,za j.2.1 4 _ rfl,za j.2.1 5 _ rfl,za j.2.1 6 _ rfl,za j.2.1 7 _ rfl,za j.2.1 8 _ rfl,za j.2.1 9 _ rfl,za j.2.1 10 _ rfl,za j.2.1 11 _ rfl,za (by have h:=s.out;unfold qt at h;exact h) 0 _ rfl,za (by have h:=s.out;unfold qt at h;exact h) 1 _ rfl,za (by have h:=s.out;unfold qt at h;exact h) 2 _ rfl,za (by have h:=s.out;unfold qt at h;exact h) 3 _ rfl,za (by have h:=s.out;unfold qt at h;exact h) 4 _ rfl,za (by have h:=s.out;unfold qt at h;exact h) 5 _ rfl,za (by have h:=s.out;unfold qt at h;exact h) 6 _ rfl,za (by have h:=s.out;unfold qt at h;exact h) 7 _ rfl,za (by have h:=s.out;unfold qt at h;exact h) 8 _ rfl,za (by have h:=s.out;unfold qt at h;exact h) 9 _ rfl,za (by have h:=s.out;unfold qt at h;exact h) 10 _ rfl,za (by have h:=s.out;unfold qt at h;exact h) 11 _ rfl,za (by have h:=s.out;unfold qt at h;exact h) 12 _ rfl,(by have h:=e4.out;unfold qt at h;exact h)⟩) (λhS=>?_)
 clear P K r0 f0 r1 f1 r2 f2;simp only[sZ,sS];obtain⟨r0,r1,r2,r3⟩:=ce4 j.2.2.1;obtain⟨f0,f1,f2,f3⟩:=fe4 j.2.2.1;refine zj (rs:=[14]) (by kernel_rfl) (by simp) ?_
 refine zc.consL rfl (λK P=>?_) zc.nil
 go_simp;have n:=a3.out.2.2.2.2.2;unfold ZK qt at n;refine P.out _ _ (⟨za n.1 0 _ rfl,za n.1 1 _ rfl,za n.1 2 _ rfl,za n.2.1 0 _ rfl,za n.2.1 1 _ rfl,za n.2.1 2 _ rfl,za n.2.1 3 _ rfl,za n.2.1 4 _ rfl,za n.2.1 5 _ rfl,za n.2.1 6 _ rfl,za n.2.1 7 _ rfl,za n.2.1 8 _ rfl,za n.2.1 9 _ rfl,za n.2.1 10 _ rfl,za n.2.1 11 _ rfl,za (by have h:=t.out;unfold ZK qt at h;exact h) 0 _ rfl,za (by have h:=t.out;unfold ZK qt at h;exact h) 1 _ rfl,za (by have h:=t.out;unfold ZK qt at h;exact h) 2 _ rfl,za (by have h:=t.out;unfold ZK qt at h;exact h) 3 _ rfl,za (by have h:=t.out;unfold ZK qt at h;exact h) 4 _ rfl,za (by have h:=t.out;unfold ZK qt at h;exact h) 5 _ rfl,za (by have h:=t.out;unfold ZK qt at h;exact h) 6 _ rfl,za (by have h:=t.out;unfold ZK qt at h;exact h) 7 _ rfl,za (by have h:=t.out;unfold ZK qt at h;exact h) 8 _ rfl,za (by have h:=t.out;unfold ZK qt at h;exact h) 9 _ rfl,za (by have h:=t.out;unfold ZK qt at h;exact h) 10 _ rfl,za (by have h:=t.out;unfold ZK qt at h;exact h) 11 _ rfl,za (by have h:=t.out;unfold ZK qt at h;exact h) 12 _ rfl,(by have h:=e5.out;unfold ZK qt at h;exact h)⟩) (λhS=>?_)
 clear P K r0 f0 r1 f1 r2 f2 r3 f3 j n;simp only[sZ,sS];refine zX (by kernel_rfl) ?_ _
 go_wp2;have Z3:=a3.out.1;have Z4:=a3.out.2.1;unfold ZK qt at Z3 Z4;obtain⟨z0,z1,z2⟩:=ce3 Z3;obtain⟨t0,t1,t2,t3⟩:=ce4 Z4;have b7:=lowK M.out (.slice (some ⟨H,0,none⟩) x.san c1) (.slice O x.ldn c2) (.slice (some ⟨gb,0,none⟩) x.bkn c3) (int i64 0) (int i64 ((m:Int)+1)) (int i64 td) (.slice none 0 0);have a9:=b9.out;rw[b4.out] at a9;unfold ZK qt at b7 a9;exact Jj (v:=.tuple #[.agg #[.slice (some ⟨H,0,none⟩) x.san c1,.slice O x.ldn c2,.slice (some ⟨gb,0,none⟩) x.bkn c3],.agg #[int i64 0,int i64 ((m:Int)+1),int i64 td,.slice none 0 0]]) (by simp[results,results111,go_sem,z0,z1,z2,t0,t1,t2,t3]) rfl ⟨⟨_,by rw[e8.out],a9⟩,b7⟩
def zat (k:Nat):Bool:=decide (k=2∨k=3∨k=7)
def zaS (k:Nat):Bool:=decide (4<=k/\k<=8)
def Z0 (k:Nat):Int:=if k=1∨k=2∨k=3∨k=5 then 3 else if k=9 then 1 else 0
def QZ (k:Nat):Bool:=decide (k=1∨k=2∨k=3∨k=5)
def zbm (k:Nat):Bool:=decide (k=2)
def zmg (k:Nat):Bool:=decide (k=6∨k=8)
def zdy (k:Nat):Bool:=decide (k=5∨k=6∨k=8)
def Zm (w:World):Prop:=∀ k,k<10 ->
 w.cell? (9,k*7)=some (.bool (zat k))/\w.cell? (9,k*7+1)=some (.bool (zaS k))/\w.cell? (9,k*7+2)=some (Z0 k) /\
 w.cell? (9,k*7+3)=some (.bool (QZ k))/\w.cell? (9,k*7+4)=some (.bool (zbm k))/\w.cell? (9,k*7+5)=some (.bool (zmg k))/\w.cell? (9,k*7+6)=some (.bool (zdy k))
theorem Zm.lt {w:World}(h:Zm w):9<w.heap.size:=Ja w _ (h 0 (by decide)).1
theorem Zm.below {w w':World}(h:Zm w)(a:Below w.heap.size w w'):Zm w':=by
 intro k g;obtain⟨c,h1,h2,h3,d,e,f⟩:=h k g;have b:=h.lt;exact⟨(a.cell b).trans c,(a.cell b).trans h1,(a.cell b).trans h2,(a.cell b).trans h3,(a.cell b).trans d,(a.cell b).trans e,(a.cell b).trans f⟩
theorem Qo (x:Int)(w:World) :
  Calls prog 242 #[int i64 x] w λe w'=>e=.returned (.bool (decide (In x 0 10000)))/\w'=w:=by
 go_enter func242,ntmps242;go_wp2_with (first|(go_at_call 191;refine(zz _ _ _ _).mono ?_;rintro e w' ⟨rfl,rfl⟩))
 go_ret;exact⟨rfl,rfl⟩
theorem zN (a b c:Bool)(w:World) :
  Calls prog 241 #[.bool a,.bool b,.bool c] w λe w'=>e=.returned (.bool (if a then b else c))/\w'=w:=by
 cases a with
 | true =>
  go_enter func241,ntmps241;go_wp2;go_ret;exact⟨rfl,rfl⟩
 | false =>
  go_enter func241,ntmps241;go_wp2;go_ret;exact⟨rfl,rfl⟩
theorem zhe (b:Int)(w:World):Calls prog 266 #[.int .u8 b] w λe w'=>e=.returned (.bool (decide (zcj b)))/\w'=w:=by
 obtain⟨c,d⟩:∃ c,c=decide (zcj b):=⟨_,rfl⟩;rw[← d];have a:=hI d;clear d
 by_cases h1:97<=b
 ·have i:decide (97<=b)=true:=by simpa using h1
  by_cases h2:b<=122
  ·have j:decide (b<=122)=true:=by simpa using h2
   go_enter func266,ntmps266;go_wp2;go_ret;exact⟨by rw[a.out,Jd (.inl ⟨h1,h2⟩)];rfl,rfl⟩
  ·have j:decide (b<=122)=false:=by simpa using h2
   have f:decide (65<=b)=true:=by simp;omega
   have g:decide (b<=90)=false:=by simp;omega
   go_enter func266,ntmps266;go_wp2;go_ret;exact⟨by rw[a.out,Jc (by rintro(h|h) <;> omega)];rfl,rfl⟩
 ·have i:decide (97<=b)=false:=by simpa using h1
  by_cases h3:65<=b
  ·have f:decide (65<=b)=true:=by simpa using h3
   by_cases h4:b<=90
   ·have g:decide (b<=90)=true:=by simpa using h4
    go_enter func266,ntmps266;go_wp2;go_ret;exact⟨by rw[a.out,Jd (.inr ⟨h3,h4⟩)];rfl,rfl⟩
   ·have g:decide (b<=90)=false:=by simpa using h4
    go_enter func266,ntmps266;go_wp2;go_ret;exact⟨by rw[a.out,Jc (by rintro(h|h) <;> omega)];rfl,rfl⟩
  ·have f:decide (65<=b)=false:=by simpa using h3
   go_enter func266,ntmps266;go_wp2;go_ret;exact⟨by rw[a.out,Jc (by rintro(h|h) <;> omega)];rfl,rfl⟩
theorem znO (s:ByteArray)(w:World)(hs:s.size<=1000000000000000) :
  Calls prog 239 #[s] w λe w'=>qX (Zg s) e/\w'=w:=by
 by_cases h0:In (s.size:Int) 1 12
 ·have b:=hI h0
  have g:=Jd h0;have m:s.size<=12:=by have:=h0.2;omega
  clear h0;go_enter func239,ntmps239;go_wp2_with (first|(go_at_call 191;refine sC (zz _ _ _ _) ?_))
  go_loop [3,10] (λ_ i=>∃ k,k<=s.size/\i=int i64 k/\∀ j,j<k->zcj (zed s j)) (λ_ i=>s.size - (intOf i).toNat)
  case atStart=>exact⟨0,Jq _,rfl,λj l=>by omega⟩
  case round =>
   obtain⟨k,hk,rfl,a⟩:=hrel;have f:=hI a;clear a
   by_cases hlt:k<s.size
   ·by_cases hL:zcj (zed s k)
    ·have d:=Jd hL
     have c:=hI hL;clear hL;rw[← zgk s k hlt] at d;go_wp2_with (first|(go_at_call 266;refine sC (zhe _ _) ?_))
     go_round
     case rel=>exact⟨k+1,by omega,by go_num,λj l=>by
      by_cases e:j=k
      ·subst e;exact c
      ·exact f j (by omega)⟩
     case measure=>simp[intOf];omega
    ·have d:=Jc hL
     have c:=hI hL;clear hL;rw[← zgk s k hlt] at d;go_wp2_with (first|(go_at_call 266;refine sC (zhe _ _) ?_))
     go_ret;exact⟨zl (λh=>c (h.2.2 k hlt)),rfl⟩
   ·obtain rfl:k=s.size:=by omega
    go_wp2;go_ret;exact⟨zR ⟨by have:=b.1;omega,by have:=b.2;omega,f⟩,rfl⟩
 ·have b:=hI h0
  have g:=Jc h0;clear h0;go_enter func239,ntmps239;go_wp2_with (first|(go_at_call 191;refine sC (zz _ _ _ _) ?_))
  go_ret;exact⟨zl (λh=>b ⟨by have:=h.1;omega,by have:=h.2.1;omega⟩),rfl⟩
theorem Zi (s:ByteArray)(w:World)(a:s.size<=1000000000000000) :
  Calls prog 239 #[s] w λe w'=>e=.returned (.bool (decide (Zg s)))/\w'=w:=by
 refine(znO s w a).mono ?_;rintro e w' ⟨⟨b',rfl,h⟩,rfl⟩;rw[bool_eq h (decide_eq_true_iff)];exact⟨rfl,rfl⟩
section
open Go.RowKit
variable{k:Nat}
theorem party_eql (pe len hei cl:Int)(all:Bool)(be:Int)(w:World) :
  (binOp .eql 45 (.agg #[pe,len,hei,cl,all,be]) (.agg #[(),(),(),(),.bool false,()])).run prog w=.ok (.bool (PZ pe len hei cl all be)) w:=by
 unfold PZ zfl
 by_cases h1:pe=0
 ·subst h1
  by_cases h2:len=0
  ·subst h2
   by_cases h3:hei=0
   ·subst h3
    by_cases h4:cl=0
    ·subst h4
     cases all with
     | false =>
      by_cases h5:be=0
      ·subst h5
       go_simp
      ·go_simp
     | true=>go_simp
    ·go_simp
   ·go_simp
  ·go_simp
 ·go_simp
theorem zbQ (pe len hei cl:Int)(all:Bool)(be:Int)(w:World) :
  Calls prog 240 #[.agg #[pe,len,hei,cl,all,be]] w λe w'=>e=.returned (.bool (decide (qI ⟨pe,len,hei,cl,all,be⟩)))/\Below w.heap.size w w':=by
 refine(Qw pe len hei cl all be w).mono ?_;rintro e w' ⟨⟨b,rfl,a⟩,c⟩;refine⟨?_,c⟩
 congr 2
 rw[Bool.eq_iff_iff,a,decide_eq_true_eq]
theorem znP (s:ByteArray):(if zat k then decide (Zg s) else s.toList.isEmpty)=decide (ZS k s):=by
 by_cases c:k=2∨k=3∨k=7
 ·have e:zat k=true:=Jd c
  rw[e,Jf rfl];have c2:(k:Int)=2∨(k:Int)=3∨(k:Int)=7:=by omega
  rw[Bool.eq_iff_iff,decide_eq_true_eq,decide_eq_true_eq];unfold ZS;rw[Jf c2]
 ·have e:zat k=false:=Jc c
  rw[e,zap s (show ¬ ((k:Int)=2∨(k:Int)=3∨(k:Int)=7) by omega)]
  rfl
theorem name_form (n:Int):(if zaS k then decide (In n 1 30) else (n == 0))=decide (Qs k n):=by
 by_cases c:4<=k/\k<=8
 ·have e:zaS k=true:=Jd c
  have c2:In (k:Int) 4 8:=⟨by omega,by omega⟩
  rw[e,Jf rfl,Bool.eq_iff_iff,decide_eq_true_eq,decide_eq_true_eq];unfold Qs;rw[Jf c2]
 ·have e:zaS k=false:=Jc c
  rw[e,zds n (show ¬ In (k:Int) 4 8 by unfold In;omega)]
  rfl
theorem legs_form (n:Nat):(if decide (0<Z0 k) then decide (In (n:Int) 1 (Z0 k)) else ((n:Int) == 0))=decide (qi k n):=by
 by_cases c:k=1∨k=2∨k=3∨k=5
 ·have e:Z0 k=3:=Jf c
  have c2:zJ (k:Int):=by unfold zJ;omega
  rw[e,show decide _=true from rfl,Jf rfl,Bool.eq_iff_iff,decide_eq_true_eq,decide_eq_true_eq];unfold qi In;rw[Jf c2]
  omega
 ·have c2:¬ zJ (k:Int):=by unfold zJ;omega
  by_cases c9:k=9
  ·have e:Z0 k=1:=by unfold Z0;rw[Je c,Jf c9]
   rw[e,show decide _=true from rfl,Jf rfl,Bool.eq_iff_iff,decide_eq_true_eq,decide_eq_true_eq];unfold qi In;rw[Je c2,Jf (by omega)]
   omega
  ·have e:Z0 k=0:=by unfold Z0;rw[Je c,Je c9]
   rw[e,show decide _=false from rfl,Je (by decide),zey,Bool.eq_iff_iff,decide_eq_true_eq,decide_eq_true_eq]
   unfold qi;rw[Je c2,Je (by omega)]
theorem znQ {q:Bool}{p:Qh}(h:q=true↔qI p):(if QZ k then q else PZ p.pe p.len p.hei p.cl p.all p.be)=decide (qA k p):=by
 by_cases c:k=1∨k=2∨k=3∨k=5
 ·have e:QZ k=true:=Jd c
  rw[e,Jf rfl];exact(zcl (show zJ (k:Int) by unfold zJ;omega) h).symm
 ·have e:QZ k=false:=Jc c
  rw[e,Je (by decide)]
  exact zby (show ¬ zJ (k:Int) by unfold zJ;omega)
theorem znR (u:Int):(if zbm k then decide (In u 0 10000) else (u == 0))=decide (Qm k u):=by
 by_cases c:k=2
 ·have e:zbm k=true:=Jd c
  rw[e,Jf rfl,Bool.eq_iff_iff,decide_eq_true_eq,decide_eq_true_eq];unfold Qm In
  omega
 ·have e:zbm k=false:=Jc c
  rw[e,Je (by decide),Bool.eq_iff_iff,beq_iff_eq,decide_eq_true_eq]
  unfold Qm
  omega
theorem now_form (u:Int):(if zmg k then decide (In u 0 10000) else (u == 0))=decide (zbW k u):=by
 by_cases c:k=6∨k=8
 ·have e:zmg k=true:=Jd c
  rw[e,Jf rfl,Bool.eq_iff_iff,decide_eq_true_eq,decide_eq_true_eq];unfold zbW In
  omega
 ·have e:zmg k=false:=Jc c
  rw[e,Je (by decide),Bool.eq_iff_iff,beq_iff_eq,decide_eq_true_eq]
  unfold zbW
  omega
theorem zdX (cs:List Value)(x:OpD)(w:World)(M:x.own.size<=1000000000000000)(h:OpD.Is w cs x)(hF:Zm w) :
  Calls prog 194 #[.agg cs.toArray] w λe w'=>e=.returned (.bool (decide (zac x)))/\Below w.heap.size w w':=by
 obtain⟨D,E,rfl,_,_⟩:=h;obtain⟨V,hV⟩:∃ V,V=decide (zac x):=⟨_,rfl⟩;rw[← hV];have H:Hid (V=true↔zac x):=by show V=true↔zac x;rw[hV,decide_eq_true_eq]
 clear hV;have b:=hI hF;clear hF;have qP:=party_eql x.pe x.len x.hei x.cl x.all x.be;have d:Below w.heap.size w (w.alloc (.cells (x,D,E) 47)):=zk bZ _;have b0:=Jb w (.cells (x,D,E) 47);go_enter func194,ntmps194;go_wp2_with fail;generalize w.alloc (.cells (x,D,E) 47)=W at d b0 ⊢;obtain⟨t0,N⟩:∃ t,t=decide (In x.kind 1 9):=⟨_,rfl⟩;have L:Hid (t0=true↔In x.kind 1 9):=by show t0=true↔In x.kind 1 9;rw[N,decide_eq_true_eq]
 refine(zz _ _ _ _).mono ?_;rw[← N];clear N;rintro e v ⟨rfl,hv⟩;have hv:=hv.symm;subst hv
 cases t0 with
 | false =>
  have n:Hid (V=false):=Bool.eq_false_iff.2 (λh=>by have:=L.2 (H.1 h).1;cases this)
  go_wp2;go_ret;exact⟨by rw[n.out];rfl,d⟩
 | true =>
 have J:Hid (In x.kind 1 9):=L.1 rfl;obtain⟨k,hk⟩:∃ k:Nat,x.kind=(k:Int):=⟨x.kind.toNat,by have:=J.1;omega⟩
 have s:=hI hk;have b6:1<=k/\k<=9:=by have:=J.out;unfold In at this;omega
 clear L;have t0:W.cell? (9,k*7)=some (.bool (zat k)):=(d.cell (p:=(9,k*7)) b.lt).trans (b k (by omega)).1
 have t1:W.cell? (9,k*7+1)=some (.bool (zaS k)):=(d.cell (p:=(9,k*7+1)) b.lt).trans (b k (by omega)).2.1
 have t2:W.cell? (9,k*7+2)=some (Z0 k):=(d.cell (p:=(9,k*7+2)) b.lt).trans (b k (by omega)).2.2.1
 have t3:W.cell? (9,k*7+3)=some (.bool (QZ k)):=(d.cell (p:=(9,k*7+3)) b.lt).trans (b k (by omega)).2.2.2.1
 have t4:W.cell? (9,k*7+4)=some (.bool (zbm k)):=(d.cell (p:=(9,k*7+4)) b.lt).trans (b k (by omega)).2.2.2.2.1
 have t5:W.cell? (9,k*7+5)=some (.bool (zmg k)):=(d.cell (p:=(9,k*7+5)) b.lt).trans (b k (by omega)).2.2.2.2.2.1
 have t6:W.cell? (9,k*7+6)=some (.bool (zdy k)):=(d.cell (p:=(9,k*7+6)) b.lt).trans (b k (by omega)).2.2.2.2.2.2
 have y0:W.cell? (w.heap.size,0)=some (k:Int):=by rw[← hk];exact za b0 0 _ rfl
 have b4:(0:Int)<=(k:Int):=by omega
 have b5:(k:Int)<10:=by omega
 have c:=zd b0 (.cells #[.bool (zat k),.bool (zaS k),(Z0 k),.bool (QZ k),.bool (zbm k),.bool (zmg k),.bool (zdy k)] 263);have f:=Jb W (.cells #[.bool (zat k),.bool (zaS k),(Z0 k),.bool (QZ k),.bool (zbm k),.bool (zmg k),.bool (zdy k)] 263);have l:=zk d (.cells #[.bool (zat k),.bool (zaS k),(Z0 k),.bool (QZ k),.bool (zbm k),.bool (zmg k),.bool (zdy k)] 263);clear hk;go_upto_region 4 with fail;generalize hFx:W.heap.size=Q at f ⊢;generalize W.alloc (.cells #[.bool (zat k),.bool (zaS k),(Z0 k),.bool (QZ k),.bool (zbm k),.bool (zmg k),.bool (zdy k)] 263)=j at l c f ⊢;clear y0 t0 t1 t2 t3 t4 t5 t6 b4 b5 d b0 hFx;have B:=zM c;have R:=zM f;have z1:∀ g:zn j,g.val.cell? (w.heap.size,1)=some (.string x.own):=λg=>(g.bel.cell B).trans (za c 1 _ rfl)
 have z2:∀ g:zn j,g.val.cell? (w.heap.size,2)=some (int i64 x.name):=λg=>(g.bel.cell B).trans (za c 2 _ rfl)
 have z3:∀ g:zn j,g.val.cell? (w.heap.size,3)=some (D,x.lgn,E):=λg=>(g.bel.cell B).trans (za c 3 _ rfl)
 have z4:∀ g:zn j,g.val.cell? (w.heap.size,4)=some (int i64 x.pe):=λg=>(g.bel.cell B).trans (za c 4 _ rfl)
 have z5:∀ g:zn j,g.val.cell? (w.heap.size,5)=some (int i64 x.len):=λg=>(g.bel.cell B).trans (za c 5 _ rfl)
 have z6:∀ g:zn j,g.val.cell? (w.heap.size,6)=some (int i64 x.hei):=λg=>(g.bel.cell B).trans (za c 6 _ rfl)
 have z7:∀ g:zn j,g.val.cell? (w.heap.size,7)=some (int i64 x.cl):=λg=>(g.bel.cell B).trans (za c 7 _ rfl)
 have z8:∀ g:zn j,g.val.cell? (w.heap.size,8)=some (.bool x.all):=λg=>(g.bel.cell B).trans (za c 8 _ rfl)
 have z9:∀ g:zn j,g.val.cell? (w.heap.size,9)=some (int i64 x.be):=λg=>(g.bel.cell B).trans (za c 9 _ rfl)
 have b7:∀ g:zn j,g.val.cell? (w.heap.size,10)=some (int i64 x.unt):=λg=>(g.bel.cell B).trans (za c 10 _ rfl)
 have b8:∀ g:zn j,g.val.cell? (w.heap.size,11)=some (int i64 x.now):=λg=>(g.bel.cell B).trans (za c 11 _ rfl)
 have f0:∀ g:zn j,g.val.cell? (Q,0)=some (.bool (zat k)):=λg=>(g.bel.cell R).trans (za f 0 _ rfl)
 have f1:∀ g:zn j,g.val.cell? (Q,1)=some (.bool (zaS k)):=λg=>(g.bel.cell R).trans (za f 1 _ rfl)
 have f2:∀ g:zn j,g.val.cell? (Q,2)=some (Z0 k):=λg=>(g.bel.cell R).trans (za f 2 _ rfl)
 have f3:∀ g:zn j,g.val.cell? (Q,3)=some (.bool (QZ k)):=λg=>(g.bel.cell R).trans (za f 3 _ rfl)
 have f4:∀ g:zn j,g.val.cell? (Q,4)=some (.bool (zbm k)):=λg=>(g.bel.cell R).trans (za f 4 _ rfl)
 have f5:∀ g:zn j,g.val.cell? (Q,5)=some (.bool (zmg k)):=λg=>(g.bel.cell R).trans (za f 5 _ rfl)
 obtain⟨m,a1⟩:∃ t,decide (Zg x.own)=t:=⟨_,rfl⟩;have i:=hI a1;obtain⟨r,a2⟩:∃ t,decide (In x.name 1 30)=t:=⟨_,rfl⟩;have o:=hI a2;obtain⟨y,a3⟩:∃ t,decide (In (x.lgn:Int) 1 (Z0 k))=t:=⟨_,rfl⟩;have u:=hI a3;obtain⟨z,a4⟩:∃ t,decide (qI ⟨x.pe,x.len,x.hei,x.cl,x.all,x.be⟩)=t:=⟨_,rfl⟩;have A:=hI a4;obtain⟨F,a5⟩:∃ t,decide (In x.unt 0 10000)=t:=⟨_,rfl⟩;have C:=hI a5;obtain⟨O,a6⟩:∃ t,decide (In x.now 0 10000)=t:=⟨_,rfl⟩;have K:=hI a6;clear a1 a2 a3 a4 a5 a6 c f;have T:Hid ((if zat k then m else x.own.toList.isEmpty)=true↔ZS x.kind x.own):=by
  show(if zat k then m else x.own.toList.isEmpty)=true↔ZS x.kind x.own
  rw[← i.out,znP x.own,decide_eq_true_eq,s.out]
 have U:Hid ((if zaS k then r else (x.name == 0))=true↔Qs x.kind x.name):=by
  show(if zaS k then r else (x.name == 0))=true↔Qs x.kind x.name
  rw[← o.out,name_form x.name,decide_eq_true_eq,s.out]
 have X:Hid ((if decide (0<Z0 k) then y else ((x.lgn:Int) == 0))=true↔qi x.kind x.lgn):=by
  show(if decide (0<Z0 k) then y else ((x.lgn:Int) == 0))=true↔qi x.kind x.lgn
  rw[← u.out,legs_form x.lgn,decide_eq_true_eq,s.out]
 have Y:Hid ((if QZ k then z else (PZ x.pe x.len x.hei x.cl x.all x.be))=true↔qA x.kind x.p):=by
  show(if QZ k then z else (PZ x.pe x.len x.hei x.cl x.all x.be))=true↔qA x.kind x.p
  have h3:(if QZ k then z else PZ x.pe x.len x.hei x.cl x.all x.be)=decide (qA (k:Int) x.p):=znQ (p:=x.p) (show z=true↔qI x.p by rw[← A.out,decide_eq_true_eq];exact Iff.rfl)
  rw[h3,decide_eq_true_eq,s.out]
 have Z:Hid ((if zbm k then F else (x.unt == 0))=true↔Qm x.kind x.unt):=by
  show(if zbm k then F else (x.unt == 0))=true↔Qm x.kind x.unt
  rw[← C.out,znR x.unt,decide_eq_true_eq,s.out]
 have a0:Hid ((if zmg k then O else (x.now == 0))=true↔zbW x.kind x.now):=by
  show(if zmg k then O else (x.now == 0))=true↔zbW x.kind x.now
  rw[← K.out,now_form x.now,decide_eq_true_eq,s.out]
 by_cases p0:ZS x.kind x.own
 case neg =>
  have G:Hid ((if zat k then m else x.own.toList.isEmpty)=false):=Bool.eq_false_iff.2 (λh=>p0 (T.1 h))
  have n:Hid (V=false):=Bool.eq_false_iff.2 (λh=>p0 (H.1 h).2.1)
  clear p0;refine zh (by kernel_rfl) (by kernel_rfl) ?_
  simp only[List.append_eq,List.cons_append,List.nil_append]
  repeat(first|go_big_quiet_skip|(go_big_quiet_want;go_big_quiet_op;first|go_big_quiet_on|(apply Jg;refine⟨λg=>?_,?_⟩;(focus(go_at_call 239;with_reducible refine zf (v:=.bool m) (Jm (Zi x.own _ M) ?_);rintro e a ⟨rfl,rfl⟩;exact⟨by rw[i.out],bZ⟩));go_big_quiet_on)|(apply Jg;refine⟨λg=>?_,?_⟩;(focus(go_at_call 241;with_reducible refine zf (v:=.bool false) (Jm (zN (zat k) m x.own.toList.isEmpty _) ?_);rintro e a ⟨rfl,rfl⟩;exact⟨by rw[G.out],bZ⟩));go_big_quiet_on)))
  refine Jl ?_;rintro _ ⟨g,rfl⟩;go_wp2;go_ret;exact⟨by rw[n.out];rfl,ze l g.bel⟩
 have G:=hI (T.2 p0);have a7:=hI p0;clear p0
 by_cases p1:Qs x.kind x.name
 case neg =>
  have I:Hid ((if zaS k then r else (x.name == 0))=false):=Bool.eq_false_iff.2 (λh=>p1 (U.1 h))
  have n:Hid (V=false):=Bool.eq_false_iff.2 (λh=>p1 (H.1 h).2.2.1)
  clear p1;refine zh (by kernel_rfl) (by kernel_rfl) ?_
  simp only[List.append_eq,List.cons_append,List.nil_append]
  repeat(first|go_big_quiet_skip|(go_big_quiet_want;go_big_quiet_op;first|go_big_quiet_on|(apply Jg;refine⟨λg=>?_,?_⟩;(focus(go_at_call 239;with_reducible refine zf (v:=.bool m) (Jm (Zi x.own _ M) ?_);rintro e a ⟨rfl,rfl⟩;exact⟨by rw[i.out],bZ⟩));go_big_quiet_on)|(apply Jg;refine⟨λg=>?_,?_⟩;(focus(go_at_call 191;with_reducible refine zf (v:=.bool r) (Jm (zz x.name 1 30 _) ?_);rintro e a ⟨rfl,rfl⟩;exact⟨by rw[o.out],bZ⟩));go_big_quiet_on)|(apply Jg;refine⟨λg=>?_,?_⟩;(focus(go_at_call 241;with_reducible refine zf (v:=.bool true) (Jm (zN (zat k) m x.own.toList.isEmpty _) ?_);rintro e a ⟨rfl,rfl⟩;exact⟨by rw[G.out],bZ⟩));go_big_quiet_on)|(apply Jg;refine⟨λg=>?_,?_⟩;(focus(go_at_call 241;with_reducible refine zf (v:=.bool false) (Jm (zN (zaS k) r (x.name == 0) _) ?_);rintro e a ⟨rfl,rfl⟩;exact⟨by rw[I.out],bZ⟩));go_big_quiet_on)))
  refine Jl ?_;rintro _ ⟨g,rfl⟩;go_wp2;go_ret;exact⟨by rw[n.out];rfl,ze l g.bel⟩
 have I:=hI (U.2 p1);have a8:=hI p1;clear p1
 by_cases p2:qi x.kind x.lgn
 case neg =>
  have P:Hid ((if decide (0<Z0 k) then y else ((x.lgn:Int) == 0))=false):=Bool.eq_false_iff.2 (λh=>p2 (X.1 h))
  have n:Hid (V=false):=Bool.eq_false_iff.2 (λh=>p2 (H.1 h).2.2.2.1)
  clear p2;refine zh (by kernel_rfl) (by kernel_rfl) ?_
  simp only[List.append_eq,List.cons_append,List.nil_append]
  repeat(first|go_big_quiet_skip|(go_big_quiet_want;go_big_quiet_op;first|go_big_quiet_on|(apply Jg;refine⟨λg=>?_,?_⟩;(focus(go_at_call 239;with_reducible refine zf (v:=.bool m) (Jm (Zi x.own _ M) ?_);rintro e a ⟨rfl,rfl⟩;exact⟨by rw[i.out],bZ⟩));go_big_quiet_on)|(apply Jg;refine⟨λg=>?_,?_⟩;(focus(go_at_call 191;with_reducible refine zf (v:=.bool r) (Jm (zz x.name 1 30 _) ?_);rintro e a ⟨rfl,rfl⟩;exact⟨by rw[o.out],bZ⟩));go_big_quiet_on)|(apply Jg;refine⟨λg=>?_,?_⟩;(focus(go_at_call 191;with_reducible refine zf (v:=.bool y) (Jm (zz (x.lgn:Int) 1 (Z0 k) _) ?_);rintro e a ⟨rfl,rfl⟩;exact⟨by rw[u.out],bZ⟩));go_big_quiet_on)|(apply Jg;refine⟨λg=>?_,?_⟩;(focus(go_at_call 241;with_reducible refine zf (v:=.bool true) (Jm (zN (zat k) m x.own.toList.isEmpty _) ?_);rintro e a ⟨rfl,rfl⟩;exact⟨by rw[G.out],bZ⟩));go_big_quiet_on)|(apply Jg;refine⟨λg=>?_,?_⟩;(focus(go_at_call 241;with_reducible refine zf (v:=.bool true) (Jm (zN (zaS k) r (x.name == 0) _) ?_);rintro e a ⟨rfl,rfl⟩;exact⟨by rw[I.out],bZ⟩));go_big_quiet_on)|(apply Jg;refine⟨λg=>?_,?_⟩;(focus(go_at_call 241;with_reducible refine zf (v:=.bool false) (Jm (zN (decide (0<Z0 k)) y ((x.lgn:Int) == 0) _) ?_);rintro e a ⟨rfl,rfl⟩;exact⟨by rw[P.out],bZ⟩));go_big_quiet_on)))
  refine Jl ?_;rintro _ ⟨g,rfl⟩;go_wp2;go_ret;exact⟨by rw[n.out];rfl,ze l g.bel⟩
 have P:=hI (X.2 p2);have a9:=hI p2;clear p2
 by_cases p3:qA x.kind x.p
 case neg =>
  have S:Hid ((if QZ k then z else (PZ x.pe x.len x.hei x.cl x.all x.be))=false):=Bool.eq_false_iff.2 (λh=>p3 (Y.1 h))
  have n:Hid (V=false):=Bool.eq_false_iff.2 (λh=>p3 (H.1 h).2.2.2.2.1)
  clear p3;refine zh (by kernel_rfl) (by kernel_rfl) ?_
  simp only[List.append_eq,List.cons_append,List.nil_append]
  repeat(first|go_big_quiet_skip|(go_big_quiet_want;go_big_quiet_op;first|go_big_quiet_on|(apply Jg;refine⟨λg=>?_,?_⟩;(focus(go_at_call 239;with_reducible refine zf (v:=.bool m) (Jm (Zi x.own _ M) ?_);rintro e a ⟨rfl,rfl⟩;exact⟨by rw[i.out],bZ⟩));go_big_quiet_on)|(apply Jg;refine⟨λg=>?_,?_⟩;(focus(go_at_call 191;with_reducible refine zf (v:=.bool r) (Jm (zz x.name 1 30 _) ?_);rintro e a ⟨rfl,rfl⟩;exact⟨by rw[o.out],bZ⟩));go_big_quiet_on)|(apply Jg;refine⟨λg=>?_,?_⟩;(focus(go_at_call 191;with_reducible refine zf (v:=.bool y) (Jm (zz (x.lgn:Int) 1 (Z0 k) _) ?_);rintro e a ⟨rfl,rfl⟩;exact⟨by rw[u.out],bZ⟩));go_big_quiet_on)|(apply Jg;refine⟨λg=>?_,?_⟩;(focus(go_at_call 240;with_reducible refine zf (v:=.bool z) (Jm (zbQ x.pe x.len x.hei x.cl x.all x.be _) ?_);rintro e a ⟨rfl,q⟩;exact⟨by rw[A.out],q⟩));go_big_quiet_on)|(apply Jg;refine⟨λg=>?_,?_⟩;(focus(go_at_call 241;with_reducible refine zf (v:=.bool true) (Jm (zN (zat k) m x.own.toList.isEmpty _) ?_);rintro e a ⟨rfl,rfl⟩;exact⟨by rw[G.out],bZ⟩));go_big_quiet_on)|(apply Jg;refine⟨λg=>?_,?_⟩;(focus(go_at_call 241;with_reducible refine zf (v:=.bool true) (Jm (zN (zaS k) r (x.name == 0) _) ?_);rintro e a ⟨rfl,rfl⟩;exact⟨by rw[I.out],bZ⟩));go_big_quiet_on)|(apply Jg;refine⟨λg=>?_,?_⟩;(focus(go_at_call 241;with_reducible refine zf (v:=.bool true) (Jm (zN (decide (0<Z0 k)) y ((x.lgn:Int) == 0) _) ?_);rintro e a ⟨rfl,rfl⟩;exact⟨by rw[P.out],bZ⟩));go_big_quiet_on)|(apply Jg;refine⟨λg=>?_,?_⟩;(focus(go_at_call 241;with_reducible refine zf (v:=.bool false) (Jm (zN (QZ k) z (PZ x.pe x.len x.hei x.cl x.all x.be) _) ?_);rintro e a ⟨rfl,rfl⟩;exact⟨by rw[S.out],bZ⟩));go_big_quiet_on)))
  refine Jl ?_;rintro _ ⟨g,rfl⟩;go_wp2;go_ret;exact⟨by rw[n.out];rfl,ze l g.bel⟩
 have S:=hI (Y.2 p3);have b1:=hI p3;clear p3
 by_cases p4:Qm x.kind x.unt
 case neg =>
  have D4:Hid ((if zbm k then F else (x.unt == 0))=false):=Bool.eq_false_iff.2 (λh=>p4 (Z.1 h))
  have n:Hid (V=false):=Bool.eq_false_iff.2 (λh=>p4 (H.1 h).2.2.2.2.2.1)
  clear p4;refine zh (by kernel_rfl) (by kernel_rfl) ?_
  simp only[List.append_eq,List.cons_append,List.nil_append]
  repeat(first|go_big_quiet_skip|(go_big_quiet_want;go_big_quiet_op;first|go_big_quiet_on|(apply Jg;refine⟨λg=>?_,?_⟩;(focus(go_at_call 239;with_reducible refine zf (v:=.bool m) (Jm (Zi x.own _ M) ?_);rintro e a ⟨rfl,rfl⟩;exact⟨by rw[i.out],bZ⟩));go_big_quiet_on)|(apply Jg;refine⟨λg=>?_,?_⟩;(focus(go_at_call 191;with_reducible refine zf (v:=.bool r) (Jm (zz x.name 1 30 _) ?_);rintro e a ⟨rfl,rfl⟩;exact⟨by rw[o.out],bZ⟩));go_big_quiet_on)|(apply Jg;refine⟨λg=>?_,?_⟩;(focus(go_at_call 191;with_reducible refine zf (v:=.bool y) (Jm (zz (x.lgn:Int) 1 (Z0 k) _) ?_);rintro e a ⟨rfl,rfl⟩;exact⟨by rw[u.out],bZ⟩));go_big_quiet_on)|(apply Jg;refine⟨λg=>?_,?_⟩;(focus(go_at_call 240;with_reducible refine zf (v:=.bool z) (Jm (zbQ x.pe x.len x.hei x.cl x.all x.be _) ?_);rintro e a ⟨rfl,q⟩;exact⟨by rw[A.out],q⟩));go_big_quiet_on)|(apply Jg;refine⟨λg=>?_,?_⟩;(focus(go_at_call 242;with_reducible refine zf (v:=.bool F) (Jm (Qo x.unt _) ?_);rintro e a ⟨rfl,rfl⟩;exact⟨by rw[C.out],bZ⟩));go_big_quiet_on)|(apply Jg;refine⟨λg=>?_,?_⟩;(focus(go_at_call 241;with_reducible refine zf (v:=.bool true) (Jm (zN (zat k) m x.own.toList.isEmpty _) ?_);rintro e a ⟨rfl,rfl⟩;exact⟨by rw[G.out],bZ⟩));go_big_quiet_on)|(apply Jg;refine⟨λg=>?_,?_⟩;(focus(go_at_call 241;with_reducible refine zf (v:=.bool true) (Jm (zN (zaS k) r (x.name == 0) _) ?_);rintro e a ⟨rfl,rfl⟩;exact⟨by rw[I.out],bZ⟩));go_big_quiet_on)|(apply Jg;refine⟨λg=>?_,?_⟩;(focus(go_at_call 241;with_reducible refine zf (v:=.bool true) (Jm (zN (decide (0<Z0 k)) y ((x.lgn:Int) == 0) _) ?_);rintro e a ⟨rfl,rfl⟩;exact⟨by rw[P.out],bZ⟩));go_big_quiet_on)|(apply Jg;refine⟨λg=>?_,?_⟩;(focus(go_at_call 241;with_reducible refine zf (v:=.bool true) (Jm (zN (QZ k) z (PZ x.pe x.len x.hei x.cl x.all x.be) _) ?_);rintro e a ⟨rfl,rfl⟩;exact⟨by rw[S.out],bZ⟩));go_big_quiet_on)|(apply Jg;refine⟨λg=>?_,?_⟩;(focus(go_at_call 241;with_reducible refine zf (v:=.bool false) (Jm (zN (zbm k) F (x.unt == 0) _) ?_);rintro e a ⟨rfl,rfl⟩;exact⟨by rw[D4.out],bZ⟩));go_big_quiet_on)))
  refine Jl ?_;rintro _ ⟨g,rfl⟩;go_wp2;go_ret;exact⟨by rw[n.out];rfl,ze l g.bel⟩
 have D4:=hI (Z.2 p4);have b2:=hI p4;clear p4
 by_cases p5:zbW x.kind x.now
 case neg =>
  have D5:Hid ((if zmg k then O else (x.now == 0))=false):=Bool.eq_false_iff.2 (λh=>p5 (a0.1 h))
  have n:Hid (V=false):=Bool.eq_false_iff.2 (λh=>p5 (H.1 h).2.2.2.2.2.2)
  clear p5;refine zh (by kernel_rfl) (by kernel_rfl) ?_
  simp only[List.append_eq,List.cons_append,List.nil_append]
  repeat(first|go_big_quiet_skip|(go_big_quiet_want;go_big_quiet_op;first|go_big_quiet_on|(apply Jg;refine⟨λg=>?_,?_⟩;(focus(go_at_call 239;with_reducible refine zf (v:=.bool m) (Jm (Zi x.own _ M) ?_);rintro e a ⟨rfl,rfl⟩;exact⟨by rw[i.out],bZ⟩));go_big_quiet_on)|(apply Jg;refine⟨λg=>?_,?_⟩;(focus(go_at_call 191;with_reducible refine zf (v:=.bool r) (Jm (zz x.name 1 30 _) ?_);rintro e a ⟨rfl,rfl⟩;exact⟨by rw[o.out],bZ⟩));go_big_quiet_on)|(apply Jg;refine⟨λg=>?_,?_⟩;(focus(go_at_call 191;with_reducible refine zf (v:=.bool y) (Jm (zz (x.lgn:Int) 1 (Z0 k) _) ?_);rintro e a ⟨rfl,rfl⟩;exact⟨by rw[u.out],bZ⟩));go_big_quiet_on)|(apply Jg;refine⟨λg=>?_,?_⟩;(focus(go_at_call 240;with_reducible refine zf (v:=.bool z) (Jm (zbQ x.pe x.len x.hei x.cl x.all x.be _) ?_);rintro e a ⟨rfl,q⟩;exact⟨by rw[A.out],q⟩));go_big_quiet_on)|(apply Jg;refine⟨λg=>?_,?_⟩;(focus(go_at_call 242;with_reducible refine zf (v:=.bool F) (Jm (Qo x.unt _) ?_);rintro e a ⟨rfl,rfl⟩;exact⟨by rw[C.out],bZ⟩));go_big_quiet_on)|(apply Jg;refine⟨λg=>?_,?_⟩;(focus(go_at_call 242;with_reducible refine zf (v:=.bool O) (Jm (Qo x.now _) ?_);rintro e a ⟨rfl,rfl⟩;exact⟨by rw[K.out],bZ⟩));go_big_quiet_on)|(apply Jg;refine⟨λg=>?_,?_⟩;(focus(go_at_call 241;with_reducible refine zf (v:=.bool true) (Jm (zN (zat k) m x.own.toList.isEmpty _) ?_);rintro e a ⟨rfl,rfl⟩;exact⟨by rw[G.out],bZ⟩));go_big_quiet_on)|(apply Jg;refine⟨λg=>?_,?_⟩;(focus(go_at_call 241;with_reducible refine zf (v:=.bool true) (Jm (zN (zaS k) r (x.name == 0) _) ?_);rintro e a ⟨rfl,rfl⟩;exact⟨by rw[I.out],bZ⟩));go_big_quiet_on)|(apply Jg;refine⟨λg=>?_,?_⟩;(focus(go_at_call 241;with_reducible refine zf (v:=.bool true) (Jm (zN (decide (0<Z0 k)) y ((x.lgn:Int) == 0) _) ?_);rintro e a ⟨rfl,rfl⟩;exact⟨by rw[P.out],bZ⟩));go_big_quiet_on)|(apply Jg;refine⟨λg=>?_,?_⟩;(focus(go_at_call 241;with_reducible refine zf (v:=.bool true) (Jm (zN (QZ k) z (PZ x.pe x.len x.hei x.cl x.all x.be) _) ?_);rintro e a ⟨rfl,rfl⟩;exact⟨by rw[S.out],bZ⟩));go_big_quiet_on)|(apply Jg;refine⟨λg=>?_,?_⟩;(focus(go_at_call 241;with_reducible refine zf (v:=.bool true) (Jm (zN (zbm k) F (x.unt == 0) _) ?_);rintro e a ⟨rfl,rfl⟩;exact⟨by rw[D4.out],bZ⟩));go_big_quiet_on)|(apply Jg;refine⟨λg=>?_,?_⟩;(focus(go_at_call 241;with_reducible refine zf (v:=.bool false) (Jm (zN (zmg k) O (x.now == 0) _) ?_);rintro e a ⟨rfl,rfl⟩;exact⟨by rw[D5.out],bZ⟩));go_big_quiet_on)))
  refine Jl ?_;rintro _ ⟨g,rfl⟩;go_wp2;go_ret;exact⟨by rw[n.out];rfl,ze l g.bel⟩
 have D5:=hI (a0.2 p5);have b3:=hI p5;clear p5;have n:Hid (V=true):=H.2 ⟨J,a7,a8,a9,b1,b2,b3⟩;refine zh (by kernel_rfl) (by kernel_rfl) ?_
 simp only[List.append_eq,List.cons_append,List.nil_append]
 repeat(first|go_big_quiet_skip|(go_big_quiet_want;go_big_quiet_op;first|go_big_quiet_on|(apply Jg;refine⟨λg=>?_,?_⟩;(focus(go_at_call 239;with_reducible refine zf (v:=.bool m) (Jm (Zi x.own _ M) ?_);rintro e a ⟨rfl,rfl⟩;exact⟨by rw[i.out],bZ⟩));go_big_quiet_on)|(apply Jg;refine⟨λg=>?_,?_⟩;(focus(go_at_call 191;with_reducible refine zf (v:=.bool r) (Jm (zz x.name 1 30 _) ?_);rintro e a ⟨rfl,rfl⟩;exact⟨by rw[o.out],bZ⟩));go_big_quiet_on)|(apply Jg;refine⟨λg=>?_,?_⟩;(focus(go_at_call 191;with_reducible refine zf (v:=.bool y) (Jm (zz (x.lgn:Int) 1 (Z0 k) _) ?_);rintro e a ⟨rfl,rfl⟩;exact⟨by rw[u.out],bZ⟩));go_big_quiet_on)|(apply Jg;refine⟨λg=>?_,?_⟩;(focus(go_at_call 240;with_reducible refine zf (v:=.bool z) (Jm (zbQ x.pe x.len x.hei x.cl x.all x.be _) ?_);rintro e a ⟨rfl,q⟩;exact⟨by rw[A.out],q⟩));go_big_quiet_on)|(apply Jg;refine⟨λg=>?_,?_⟩;(focus(go_at_call 242;with_reducible refine zf (v:=.bool F) (Jm (Qo x.unt _) ?_);rintro e a ⟨rfl,rfl⟩;exact⟨by rw[C.out],bZ⟩));go_big_quiet_on)|(apply Jg;refine⟨λg=>?_,?_⟩;(focus(go_at_call 242;with_reducible refine zf (v:=.bool O) (Jm (Qo x.now _) ?_);rintro e a ⟨rfl,rfl⟩;exact⟨by rw[K.out],bZ⟩));go_big_quiet_on)|(apply Jg;refine⟨λg=>?_,?_⟩;(focus(go_at_call 241;with_reducible refine zf (v:=.bool true) (Jm (zN (zat k) m x.own.toList.isEmpty _) ?_);rintro e a ⟨rfl,rfl⟩;exact⟨by rw[G.out],bZ⟩));go_big_quiet_on)|(apply Jg;refine⟨λg=>?_,?_⟩;(focus(go_at_call 241;with_reducible refine zf (v:=.bool true) (Jm (zN (zaS k) r (x.name == 0) _) ?_);rintro e a ⟨rfl,rfl⟩;exact⟨by rw[I.out],bZ⟩));go_big_quiet_on)|(apply Jg;refine⟨λg=>?_,?_⟩;(focus(go_at_call 241;with_reducible refine zf (v:=.bool true) (Jm (zN (decide (0<Z0 k)) y ((x.lgn:Int) == 0) _) ?_);rintro e a ⟨rfl,rfl⟩;exact⟨by rw[P.out],bZ⟩));go_big_quiet_on)|(apply Jg;refine⟨λg=>?_,?_⟩;(focus(go_at_call 241;with_reducible refine zf (v:=.bool true) (Jm (zN (QZ k) z (PZ x.pe x.len x.hei x.cl x.all x.be) _) ?_);rintro e a ⟨rfl,rfl⟩;exact⟨by rw[S.out],bZ⟩));go_big_quiet_on)|(apply Jg;refine⟨λg=>?_,?_⟩;(focus(go_at_call 241;with_reducible refine zf (v:=.bool true) (Jm (zN (zbm k) F (x.unt == 0) _) ?_);rintro e a ⟨rfl,rfl⟩;exact⟨by rw[D4.out],bZ⟩));go_big_quiet_on)|(apply Jg;refine⟨λg=>?_,?_⟩;(focus(go_at_call 241;with_reducible refine zf (v:=.bool true) (Jm (zN (zmg k) O (x.now == 0) _) ?_);rintro e a ⟨rfl,rfl⟩;exact⟨by rw[D5.out],bZ⟩));go_big_quiet_on)))
 refine Jl ?_;rintro _ ⟨g,rfl⟩;go_wp2;go_ret;exact⟨by rw[n.out];rfl,ze l g.bel⟩
end
end Go.Proofs.YtmdnjgihooflfaaGreatDoor
