import Derived.Great.Walk
import Derived.Laws.Tables
import Derived.Test.YtmdnjgihooflfaaGreatDoorB03
namespace Go.Proofs.YtmdnjgihooflfaaGreatDoor
open Go.RowKit
open Go.Value (int)
open Go.IntKind (i64)
open _root_.Go.Proofs.Tryz
set_option maxHeartbeats 64000000
set_option maxRecDepth 1000000
section
variable{w:World}{g t:Nat}{u0 u1 u2 u3 u4 u5 u6 u7:Value}
theorem Tryz.infoLoadO:(Tryz.prog.info? 145).map (λi=>(i.zero,i.size,i.bytes))=some (some (.agg #[True,True,True]),3,72):=kR
theorem Tryz.infoBookingO:(Tryz.prog.info? 150).map (λi=>(i.zero,i.size,i.bytes))=some (some (.agg #[(),(),False,True,(),(),(),(),.bool false,(),(),(),()]),13,128):=kR
theorem mu (h:w.heap[g]?=some (.cells #[u0,u1,u2,u3,u4,u5,u6,u7] t (0,0)))(v:Value):(w.setCell (g,5) v).heap[g]?=some (.cells #[u0,u1,u2,u3,u4,v,u6,u7] t (0,0)):=by simpa using zk h 5 v
theorem mv (h:w.heap[g]?=some (.cells #[u0,u1,u2,u3,u4,u5,u6,u7] t (0,0)))(v:Value):(w.setCell (g,6) v).heap[g]?=some (.cells #[u0,u1,u2,u3,u4,u5,v,u7] t (0,0)):=by simpa using zk h 6 v
theorem mw {u8 u9 u10 u11 u12:Value}(h:w.heap[g]?=some (.cells #[u0,u1,u2,u3,u4,u5,u6,u7,u8,u9,u10,u11,u12] t (0,0)))(v:Value):(w.setCell (g,3) v).heap[g]?=some (.cells #[u0,u1,u2,v,u4,u5,u6,u7,u8,u9,u10,u11,u12] t (0,0)):=by simpa using zk h 3 v
theorem Ci {c:Option Addr}{n:Nat}{F:Nat->Int}(h:zS w c n F):∀ a,c=some a->∀ j u,(qp F n)[j]?=some u->w.cell? (a.add j)=some u:=by
 intro a e j u i;obtain⟨g,rfl⟩:=Dr F n j u i;obtain⟨b,off,d,f⟩:=h j g;rw[e] at d
 cases d
 rw[Addr.add_lit];exact f
theorem Tryz.sizeBookingO:(Tryz.prog.info? 150).map (·.size)=some 13:=kR
theorem Hr (n a pe len hei cl be st d c:Int)(o:ByteArray)(al:Bool)(la:Option Addr)(ln b:Nat) :
  Tryz.prog.builtSlice 150 1 [(0,.agg #[int i64 n,int i64 a,.string o,.slice la ln b,int i64 pe,int i64 len,int i64 hei,int i64 cl,.bool al,int i64 be,int i64 st,int i64 d,int i64 c])]=some #[int i64 n,int i64 a,.string o,.slice la ln b,int i64 pe,int i64 len,int i64 hei,int i64 cl,.bool al,int i64 be,int i64 st,int i64 d,int i64 c]:=by kernel_rfl
structure im (w V a:World)(v1 v2 v3:Value)(c d e:Nat)(x:zY)(L C A B D E:Nat->Value):Prop where
 q:a.heap[w.heap.size+1+1]?=some (.cells #[v1,v2,v3] 38 (0,0))
 j1:zz a V.heap.size v1 v2 v3 c d e x L C A B D E
 kp:zl V a (λb=>b=w.heap.size+1+1∨V.heap.size<=b)
theorem Ee (ao al bo:Option Addr)(N M R c cl cb:Nat)(x:zY)(w:World)(e1:x.i=N)(e2:x.l=M)(I:x.g=R)(hs:zY.Short x 1048576)(hz:qy w ao N x.G)(hl:ZA w al M x.F)(l6:qL w bo R x.u) :
  Calls prog 70 #[.agg #[.slice ao N c,.slice al M cl,.slice bo R cb]] w λe w'=>(∃ a1 c1 a2 c2 l c3 L C A B D E,e=.returned (.agg #[.slice a1 N c1,.slice a2 M c2,.slice l R c3])/\zz w' w.heap.size (.slice a1 N c1) (.slice a2 M c2) (.slice l R c3) N M R x L C A B D E)/\Below w w w':=by
 obtain⟨j0,ji,n8,n9,o0⟩:=info_parts Tryz.infoSailing;obtain⟨l0,li,o4,o5,o6⟩:=info_parts Tryz.infoLane;obtain⟨m0,mi,o7,o8,o9⟩:=info_parts Tryz.infoCabin;obtain⟨p0,pi,p1,p2,p3⟩:=info_parts Tryz.infoLoadO;obtain⟨r0,ri,p4,p5,p6⟩:=info_parts Tryz.infoBookingO;obtain⟨i0,ii,n5,n6,n7⟩:=info_parts Tryz.infoInt;have HS:Hid (Qz N x.G 1048576):=by have h:=hs.1.2;rw[e1] at h;exact h
 have k7:Hid (Zy M x.F 1048576):=by have h:=hs.2.1.2;rw[e2] at h;exact h
 have m8:Hid (ZY R x.u 1048576):=by have h:=hs.2.2.2;rw[I] at h;exact h
 have hN:N<=1048576:=by have h:=hs.1.1;omega
 have hM:M<=1048576:=by have h:=hs.2.1.1;omega
 have hR:R<=1048576:=by have h:=hs.2.2.1;omega
 have HZ:=hI hz;have HL:=hI hl;have l9:=hI l6;clear hs hz hl l6 e1 e2 I;have m:Below _ w (((w.alloc (.cells #[(ao,N,c),(al,M,cl),(bo,R,cb)] 38)).alloc (.cells #[True,True,True] 38)).alloc (.cells #[True,True,True] 38)):=zd (zd (zd bZ _) _) _;have bO:=nq m;have bR:=nr m;have bQ:=nt m;go_enter func70,ntmps70;go_wp2;generalize ((w.alloc _).alloc _).alloc _=V at m bO bR bQ ⊢;have j8:=hI bO;have m1:=hI bR;have q6:=zD bQ;go_loopw [5,14] (λ_ i wr=>∃ (k:Nat) (v:Value) (L C:_),k<=N/\i=int i64 k/\wr.heap[w.heap.size+1+1]?=some (.cells #[v,True,True] 38 (0,0))/\qR wr V.heap.size v k x.G L C/\zl V wr (λb=>b=w.heap.size+1+1∨V.heap.size<=b)) (λ_ i _=>N - (intOf i).toNat)
 case atStart=>exact⟨0,_,λ_=>.slice none 0 0,λ_=>.slice none 0 0,Jq _,rfl,bQ,qR.nil _ _ _ _ _,zl.refl _ _⟩
 case round =>
  clear bO bR bQ;obtain⟨k,v,L,C,hk,rfl,hQ,hO,b3⟩:=hrel;have d:=zl.j0 m m.size b3 (λb e=>by have e:=e;have:=m.size;omega)
  have b0:=b3.size
  by_cases hlt:k<N
  ·obtain⟨b,off,la,lc,ca,cc,rfl,h0,h1,h2,h3,h4,h5,h6,h7,h8,h9,i3,i4⟩:=HZ.out k hlt
   obtain⟨s,j6⟩:=nM (x.G k);obtain⟨_,_,s3,s4⟩:=HS.out k hlt;rw[← j6] at h0 h1 h2 h3 h4 h5 h6 h7 h8 h9 i3 i4 s3 s4;have g8:=hI j6;have n:=Ja w _ h1;obtain⟨c0,c1,c2,c3,c4,c5,c6,c7⟩:=OR d h0 h1 h2 h3 h4 h5 h6 h7 n;have k2:Hid (_/\_):=⟨h8,i3⟩;have j9:Hid (_/\_):=⟨h9,i4⟩;clear h0 h1 h2 h3 h4 h5 h6 h7 h8 h9 i3 i4 j6;have b2:Hid (∀ i,_->_/\_):=λi hi=>⟨λb n=>((hO.la i hi).lt b n).2,λb n=>((hO.M i hi).lt b n).2⟩
   have o:Below _ wr (wr.alloc (.cells (s,la,lc,ca,cc) 140)):=zd bZ _;have bX:=Qc o;have F:=zg bX (.cells #[] 223);have q:Below _ wr ((wr.alloc _).alloc (.cells #[] 223)):=zd o _;have x5:=bC F 5;have hE:((wr.alloc (.cells (s,la,lc,ca,cc) 140)).alloc _).ownsRow _ 223 2 _ 0 []:=⟨rfl,.inr ⟨_,0,#[],rfl,Jr _,EB wr _ _,Jr _,Jq _,rfl,rfl⟩⟩;have HE:Hid _:=hE;have S:=hI (Dy (k2.1.j0 (zb d q)));have T:=hI k2.2.2.2;clear hE;go_upto_region 6 with(first|(at_builtin;refine zu _ (by rfl) _ _ 137 (by rfl) _ 223 l0 _ 2 16 underlying137 li o4 o5 o6 rfl dC _ 0 [] (by rfl) HE.out la _ lc _ (by rfl) T.out (Bt _) S.out (Dx _) (by unfold maxLen;omega) oM sM ?_;intro v3 w3 Q a5;rw[Nat.zero_add,List.nil_append] at Q;obtain⟨l,I,rfl,_⟩:=zn Q;have K:=(qY a5).blk F (by simp[Value.ownBlock]);have u5:=bC K 5;have f5:=zc K 5;have b6:=q.grown a5 q.size (λj hj=>by simp[Value.ownBlock] at hj;omega)))
   have U:=mu K (l,s.la.n,I);have O:Below _ wr (w3.setCell _ (l,s.la.n,I)):=b6.setCell (p:=(wr.heap.size,5)) (Jr _) _;have j3:(w3.setCell _ (l,s.la.n,I)).ownsRow _ 223 2 _ _ _:=ZR Q (a:=(wr.heap.size,5)) (by show wr.heap.size<_;omega) _
   generalize w3.setCell _ _=W4 at U O j3 ⊢;have b1:=hI j3;clear K u5 f5 b6 Q a5 x5 o bX F q HE S T j3 c0 c1 c2 c3 c4 c5 c6 c7;have F:=zg U (.cells #[] 231);have q:Below _ wr (W4.alloc (.cells #[] 231)):=zd O _;have b7:Below _ W4 (W4.alloc (.cells #[] 231)):=zd bZ _;have x6:=bC F 6;have q4:=zD U;have hE:(W4.alloc _).ownsRow _ 231 2 _ 0 []:=⟨rfl,.inr ⟨_,0,#[],rfl,Jr _,Jb W4 _,Jr _,Jq _,rfl,rfl⟩⟩;have HE:Hid _:=hE;have S:=hI (Dy (j9.1.j0 (zb d q)));have T:=hI j9.2.2.2;clear hE;go_upto_region 7 with(first|(at_builtin;refine zu _ (by rfl) _ _ 138 (by rfl) _ 231 m0 _ 2 16 underlying138 mi o7 o8 o9 rfl dC _ 0 [] (by rfl) HE.out ca _ cc _ (by rfl) T.out (Bt _) S.out (Dx _) (by unfold maxLen;omega) oM sM ?_;intro v6 w6 e8 j1;rw[Nat.zero_add,List.nil_append] at e8;obtain⟨a6,e6,rfl,_⟩:=zn e8;have d7:=(qY j1).blk F (by simp[Value.ownBlock];omega);have u6:=bC d7 6;have f6:=zc d7 6;have X:=b7.grown j1 b7.size (λj hj=>by simp[Value.ownBlock] at hj;omega)))
   have k9:=mv d7 (a6,s.M.n,e6);have i8:Below _ wr (w6.setCell _ (a6,s.M.n,e6)):=(zb O X).setCell (p:=(wr.heap.size,6)) (Jr _) _;have j4:(w6.setCell _ (a6,s.M.n,e6)).ownsRow _ 223 2 _ _ _:=ZR (zm X b1.out) (a:=(wr.heap.size,6)) (by show wr.heap.size<_;omega) _
   have i9:(w6.setCell _ (a6,s.M.n,e6)).ownsRow (wr.heap.size+1) 231 2 _ _ _:=zo (ZR e8 (a:=(wr.heap.size,6)) (by show wr.heap.size<W4.heap.size;omega) _) oM
   generalize w6.setCell _ _=W7 at k9 i8 j4 i9 ⊢;clear U F d7 u6 f6 X e8 j1 x6 q b7 HE S T b1 O;obtain⟨av,cv,rfl,_⟩:=zn hO.row;have l5:=za hQ i8;obtain⟨y0,y1,y2,y3,y4,y5,y6,y7⟩:=ju k9;have q0:=bC l5 0;have a4:Below _ wr (W7.alloc (.cells (s,l,I,a6,e6) 140)):=zd i8 _;have f8:Below _ W7 (W7.alloc (.cells (s,l,I,a6,e6) 140)):=zd bZ _;have l2:=hO.j0 a4;have l8:=zm f8 j4;have l7:=zm f8 i9;have i6:=zg l5 (.cells (s,l,I,a6,e6) 140);have g5:Hid (∀ j u,([_,_,_,_,_,_,_,_]:List Value)[j]?=_->(W7.alloc (.cells (s,l,I,a6,e6) 140)).cell? _=_):=Jo (Jb W7 _);have J:=hI l2;have k3:Hid (_/\_):=⟨l8,l7⟩;have d1:=Jp b0 a4.size;clear l2 l8 l7 j4 i9;go_wp2_with (first|(at_builtin;refine zu _ (by rfl) _ _ 34 (by rfl) _ 140 j0 _ 8 112 underlying34 ji n8 n9 o0 rfl dC _ k _ (by rfl) J.row _ 1 1 [_,_,_,_,_,_,_,_] (by rfl) (λh=>(by cases h)) (by rfl) (λad e=>by cases e;exact g5.out) (by intro u hu;simp at hu;rcases hu with rfl|rfl|rfl|rfl|rfl|rfl|rfl|rfl <;> rfl) (by unfold maxLen;omega) oM d1 ?_;intro v9 w9 b9 a7;obtain⟨a9,e9,rfl,_⟩:=zn b9;have W:=(qY a7).blk i6 (λe=>by have:=(J.row.lt _ e).1;omega);have r9:=bC W 0;have f9:=zc W 0))
   have e5 :=
    J.k3 (lim:=wr.heap.size+1) (λi hi=>⟨λb n=>by have:=(b2.out i hi).1 b n;omega,λb n=>by have:=(b2.out i hi).2 b n;omega⟩) (by rw[← g8.out];exact k3.1) (by rw[← g8.out];exact k3.2) oM a7 (by rw[← g8.out];exact b9)
   have H:zl w9 (w9.setCell _ (a9,k+1,e9)) _:=(zl.refl _ (λb=>b=_+1)).set (a:=(w.heap.size+1+1,0)) rfl _
   have b4:=hI (e5.kept H (λb e=>by have e:=e;omega))
   have m4 :=
    hI ((b3.trans (zl.of_below a4)).trans (((qY a7).mono (λb e=>.inr (J.row.lt b e).1)).trans (H.mono (λb e=>.inl e))))
   have g4:=jx W (a9,k+1,e9);have g4:=hI g4;go_wp2;go_roundw
   case rel=>exact⟨_,_,_,_,by omega,by go_num,g4.out,b4.out,m4.out⟩
   case measure=>simp[intOf];omega
  ·obtain rfl:k=N:=by omega
   have o1:=bC (b3.blk j8.out (λe=>by have e:=e;omega)) 1
   have k6:Hid (im w V wr v _ _ k 0 0 x L C (λ_=>.slice none 0 0) (λ_=>.slice none 0 0) (λ_=>.slice none 0 0) (λ_=>.slice none 0 0)):=⟨hQ,⟨hO,qw.nil _ _ _ _ _ _,Zq.nil _ _ _ _⟩,b3⟩
   obtain⟨av,cv,rfl,_⟩:=zn hO.row;clear hlt d hO hQ b3 b0 hk HZ HS;go_wp2;clear o1;go_loopw [7,38] (λ_ i wz=>∃ (t:Nat) (lv:Value) (A B D:_),t<=M/\i=int i64 t/\Hid (im w V wz (av,k,cv) lv True k t 0 x L C A B D (λ_=>.slice none 0 0))) (λ_ i _=>M - (intOf i).toNat)
   case atStart=>exact⟨0,_,_,_,_,Jq _,rfl,k6.out⟩
   case round =>
    clear k6;obtain⟨t,lv,A,B,D,ht,rfl,f⟩:=hrel;have d:=zl.j0 m m.size f.kp (λb e=>by have e:=e;have:=m.size;omega)
    obtain⟨ae,ce,rfl,_⟩:=zn f.j1.F.row
    by_cases hlt:t<M
    ·obtain⟨Cc,d0,b8⟩:=HL.out
     obtain⟨b,off,rfl,G⟩:=d0 t hlt;obtain⟨d4,d8,d5,d9,d6,e0,a0,g1,s1,g2,s2,g3,s3⟩:=b8 t hlt;have a8:=k7.out t hlt;obtain⟨z,hz⟩:=nM (x.F t);rw[← hz] at a0 g1 s1 g2 s2 g3 s3 a8;have g9:=hI hz;rw[a0] at G;have n:=Ja w _ (G 0 dC);have c0:wr.cell? _=some (.slice d4 _ d8):=(d.cell (p:=⟨b,off+_,_⟩) n).trans (G 0 dC);have c1:wr.cell? _=some (.slice d5 _ d9):=tR d (G 1 dC) n;have c2:wr.cell? _=some (.slice d6 _ e0):=tR d (G 2 dC) n;have Y:Hid (_/\(_/\_)/\(_/\_)/\(_/\_)):=⟨a8,⟨g1,s1⟩,⟨g2,s2⟩,⟨g3,s3⟩⟩;have m2:=hI d;clear G a0 g1 s1 g2 s2 g3 s3 a8 hz d0 b8;have o:Below _ wr (wr.alloc (.cells #[(d4,z.r,d8),(d5,z.m,d9),(d6,z.t,e0)] 145)):=zd bZ _;have bX:=Qc o;have i7:=zg f.q (.cells #[(d4,z.r,d8),(d5,z.m,d9),(d6,z.t,e0)] 145)
     as_aux_lemma =>
      go_upto_region 12 with fail;generalize hbxx:wr.heap.size=bx at bX ⊢;generalize wr.alloc _=WB at o bX i7 ⊢;rw[← hbxx] at *;clear c0 c1 c2;obtain⟨x0,x1,x2⟩:=ZE bX;have q1:=bC i7 1;have d3:=hI (f.j1.j0 o);have k0:=hI (f.kp.trans (zl.of_below o));have g0:=k0.size;have b2:Hid (∀ i,_->_/\_/\_):=λi hi=>⟨λg hg=>((d3.F.K i hi).lt g hg).2,λg hg=>((d3.F.I i hi).lt g hg).2,λg hg=>((d3.F.L i hi).lt g hg).2⟩
      have m3:Hid (∀ Z,Below _ WB Z->Calls _ 138 _ Z λe w5=>(∃ a1 c1 a2 c2 l c3,e=.returned (.agg #[.slice a1 _ c1,.slice a2 _ c2,.slice l _ c3])/\Hid (w5.ownsRow _ 220 4 (.slice a1 _ c1) _ _/\w5.ownsRow _ 228 4 (.slice a2 _ c2) _ _/\w5.ownsRow _ 234 2 (.slice l _ c3) _ _))/\Below _ WB w5):=λZ hZ=>by
       have j7:=zb m2.out (zb o hZ);refine(Ms d4 d5 d6 d8 d9 e0 z Z Y.1 (Y.2.1.1.j0 j7) (Y.2.2.1.1.j0 j7) (Y.2.2.2.1.j0 j7) Y.2.1.2 Y.2.2.1.2 Y.2.2.2.2).mono ?_;rintro e w5 ⟨⟨v1,v2,v3,rfl,o1,o2,o3⟩,n3⟩;obtain⟨a1,c1,rfl,_⟩:=zn o1;obtain⟨a2,c2,rfl,_⟩:=zn o2;obtain⟨l,c3,rfl,_⟩:=zn o3;exact⟨⟨a1,c1,a2,c2,l,c3,rfl,zo o1 hZ.size,zo o2 hZ.size,zo o3 hZ.size⟩,zb hZ n3⟩
      clear f bX d;go_region_law (first
       |(go_simp;go_at_call 138;(with_reducible refine Jm (m3.out _ ?_) ?_);exact dB;rintro e w5 ⟨⟨a1,c1,a2,c2,l,c3,rfl,g7⟩,X⟩;have i5:=za i7 X;have qq:=bC i5 1;have qa:=zf (zg i5 (.cells #[(a1,z.r,c1),(a2,z.m,c2),(l,z.t,c3)] 145)) 1 _ rfl;have d2:Hid (zz (w5.alloc (.cells #[(a1,z.r,c1),(a2,z.m,c2),(l,z.t,c3)] 145)) _ _ _ _ k t 0 x L C A B D _):=d3.j0 (zd X _);have n4:V.heap.size<=(w5.alloc (.cells #[(a1,z.r,c1),(a2,z.m,c2),(l,z.t,c3)] 145)).heap.size:=Jp g0 (zd X _).size;dsimp only)
       |(refine step_append_lies _ (by rfl) _ _ 35 (by rfl) _ 145 p0 _ 3 72 underlying35 pi p1 p2 p3 rfl dC _ t _ (by rfl) d2.F.row _ 1 1 [_,_,_] (by rfl) (by rfl) (Jo (Jb w5 _)) (by intro u hu;simp at hu;rcases hu with rfl | rfl | rfl <;> rfl) dC (by unfold maxLen;omega) oM n4 (w5.heap.size+1) sM ?_;intro g6 l1 w6 j5 P q3 q5;have e7:=(qY P).blk (zg i5 _) (λe=>by have:=(d2.F.row.lt _ e).1;omega);have u1:=bC e7 1;have u2:=zc e7 1))
      all_goals
       have k5:=d2.load b2.out (by rw[← g9.out];exact zm (zd bZ _) g7.1) (by rw[← g9.out];exact zm (zd bZ _) g7.2.1) (by rw[← g9.out];exact zm (zd bZ _) g7.2.2) g0 P j5
       have H:zl w6 (w6.setCell _ (some (g6,0),t+1,l1)) _:=(zl.refl _ (λb=>b=_+1)).set (a:=(w.heap.size+1+1,1)) rfl _
       have b4:Hid (im w V _ _ _ _ k _ 0 x L C _ _ _ _):=⟨jy e7 _,k5.box H e7 dC,(k0.trans (zl.of_below (zd X _))).trans (((qY P).mono (λb e=>.inr (d2.F.row.lt b e).1)).trans (H.mono (λb e=>.inl e)))⟩
       clear k5 H;go_wp2;go_roundw
       case rel=>exact⟨_,_,_,_,_,by omega,by go_num,b4.out⟩
       case measure=>simp[intOf];omega
    ·obtain rfl:t=M:=by omega
     have o2:=bC (f.kp.blk j8.out (λe=>by have e:=e;omega)) 2
     clear hlt d ht HL k7;go_wp2;clear o2;go_loopw [9,53] (λ_ i wz=>∃ (r:Nat) (bv:Value) (E:_),r<=R/\i=int i64 r/\Hid (im w V wz (av,k,cv) (ae,t,ce) bv k t r x L C A B D E)) (λ_ i _=>R - (intOf i).toNat)
     case atStart=>exact⟨0,_,_,Jq _,rfl,f.out⟩
     case round =>
      clear f;obtain⟨r,bv,E,hr,rfl,f⟩:=hrel;have d:=zl.j0 m m.size f.kp (λb e=>by have e:=e;have:=m.size;omega)
      obtain⟨ab,e4,rfl,_⟩:=zn f.j1.u.row
      by_cases hlt:r<R
      ·obtain⟨Cc,d0,b8⟩:=l9.out
       obtain⟨b,off,rfl,G⟩:=d0 r hlt;obtain⟨f7,f4,a0,g1,s1⟩:=b8 r hlt;have a8:=m8.out r hlt;obtain⟨y,hy⟩:=nM (x.u r);rw[← hy] at a0 g1 s1 a8;have k8:=hI hy;rw[a0] at G;have n:=Ja w _ (G 0 dC);have c0:wr.cell? _=some (.int _ _):=(d.cell (p:=⟨b,off+_,_⟩) n).trans (G 0 dC);have c1:wr.cell? _=some (.int _ _):=tR d (G 1 dC) n;have c2:wr.cell? _=some (.string _):=tR d (G 2 dC) n;have c3:wr.cell? _=some (.slice f7 _ f4):=tR d (G 3 dC) n;have c4:wr.cell? _=some (.int _ _):=tR d (G 4 dC) n;have c5:wr.cell? _=some (.int _ _):=tR d (G 5 dC) n;have c6:wr.cell? _=some (.int _ _):=tR d (G 6 dC) n;have c7:wr.cell? _=some (.int _ _):=tR d (G 7 dC) n;have c8:wr.cell? _=some (.bool _):=tR d (G 8 dC) n;have c9:wr.cell? _=some (.int _ _):=tR d (G 9 dC) n;have m9:wr.cell? _=some (.int _ _):=tR d (G 10 dC) n;have n1:wr.cell? _=some (.int _ _):=tR d (G 11 dC) n;have n2:wr.cell? _=some (.int _ _):=tR d (G 12 dC) n;have q7:=a8.2;have k4:Hid (_/\_):=⟨g1,s1⟩;clear G a0 g1 s1 a8 hy d0 b8;have o:Below _ wr (wr.alloc (.cells (y,f7,f4) 150)):=zd bZ _;have bX:=Qc o;have F:=zg bX (.cells #[] 3);have q:Below _ wr ((wr.alloc _).alloc (.cells #[] 3)):=zd o _;have x3:=bC F 3;have HE:Hid (((wr.alloc (.cells (y,f7,f4) 150)).alloc _).ownsRow _ 3 1 _ 0 []):=⟨rfl,.inr ⟨_,0,#[],rfl,Jr _,EB wr _ _,Jr _,Jq _,rfl,rfl⟩⟩;have S:=hI (Ci (k4.1.j0 (zb d q)));have T:=hI k4.2.2.2;have b2:Hid (∀ i,_->∀ b,_->b<wr.heap.size+1):=λi hi g hg=>by have:=((f.j1.u.j4 i hi).lt g hg).2;omega
       as_aux_lemma =>
        go_upto_region 18 with(first|(at_builtin;refine zu _ (by rfl) _ _ 27 (by rfl) _ 3 i0 _ 1 8 underlying27 ii n5 n6 n7 rfl dC _ 0 [] (by rfl) HE.out f7 _ f4 _ (by rfl) T.out (by rw[Qy,Nat.mul_one]) S.out (Az _ _) (by unfold maxLen;omega) oM sM ?_;intro v3 w3 Q a5;rw[Nat.zero_add,List.nil_append] at Q;obtain⟨l,I,rfl,_⟩:=zn Q;have K:=(qY a5).blk F (by simp[Value.ownBlock]);have v5:=bC K 3;have f5:=zc K 3;have b6:=q.grown a5 q.size (λj hj=>by simp[Value.ownBlock] at hj;omega)))
        have U:=mw K (l,y.c,I);have O:Below _ wr (w3.setCell _ (l,y.c,I)):=b6.setCell (p:=(wr.heap.size,3)) (Jr _) _;have b1:Hid ((w3.setCell _ (l,y.c,I)).ownsRow _ 3 1 _ _ _):=ZR Q (a:=(wr.heap.size,3)) (by show wr.heap.size<_;omega) _
        generalize w3.setCell _ _=W4 at U O b1 ⊢;clear K v5 f5 b6 Q a5 x3 o bX F q HE S T c0 c1 c2 c3 c4 c5 c6 c7 c8 c9 m9 n1 n2;have l4:=za f.q O;obtain⟨y0,y1,y2,y3,y4,y5,y6,y7,y8,y9,p7,p8,p9⟩:=Cl U;have q2:=bC l4 2;have a4:Below _ wr (W4.alloc (.cells (y,l,I) 150)):=zd O _;have J:=hI (f.j1.j0 a4);have m7:Hid ((W4.alloc (.cells (y,l,I) 150)).ownsRow _ 3 1 _ _ _):=zm (zd bZ _) b1.out;have i6:=zg l4 (.cells (y,l,I) 150);have g5:Hid (∀ j u,([_,_,_,_,_,_,_,_,_,_,_,_,_]:List Value)[j]?=_->(W4.alloc (.cells (y,l,I) 150)).cell? _=_):=Jo (Jb W4 _);have k1:=hI f.kp;have b0:=k1.size;have d1:=Jp b0 a4.size;clear f b1 O;clear y0 y1 y2 y3 y4 y5 y6 y7 y8 y9 p7 p8 p9;refine wp_region_lit ?_;refine Go.Great.wpList_runTo rfl _ rfl _ _ (show _ from rfl) ?_;refine Go.Great.wpList_readTo rfl _ rfl (ab,r,e4) (by simp[execOp,q2,go_sem]) ?_
        refine wpList_load_row rfl _ _ rfl _ rfl _ _ _ _ U underlying150 rfl Tryz.sizeBookingO ?_;refine Go.Great.wpList_buildSliceTo rfl _ _ 1 _ rfl _ rfl _ rfl underlying36 _ (Eq.trans (congrArg _ (show _ from by first|(simp[go_sem];done)|rfl|kernel_rfl)) (Hr y.k y.e y.v y.f y.j y.w y.x y.C y.y y.j2 y.j1 y.h l y.c I)) ?_
        go_wp2_with (first|(at_builtin;refine zu _ (by rfl) (.tmp 63) (.tmp 65) 36 (by rfl) V.heap.size 150 r0 (.agg #[(),(),False,True,(),(),(),(),.bool false,(),(),(),()]) 13 128 underlying36 ri p4 p5 p6 rfl dC _ r _ (by rfl) J.u.row (some (W4.heap.size,0)) 1 1 [y.k,y.e,y.j1,(l,y.c,I),y.v,y.f,y.j,y.w,y.h,y.x,y.C,y.y,y.j2] (by rfl) (λh=>(by cases h)) (by rfl) (λad e=>by cases e;exact g5.out) (by intro u hu;simp at hu;rcases hu with rfl|rfl|rfl|rfl|rfl|rfl|rfl|rfl|rfl|rfl|rfl|rfl|rfl <;> rfl) (by unfold maxLen;omega) oM d1 ?_;intro v9 w9 b9 a7;obtain⟨a9,e9,rfl,_⟩:=zn b9;have W:=(qY a7).blk i6 (λe=>by have:=(J.u.row.lt _ e).1;omega);have r9:=bC W 2;have f9:=zc W 2))
        have e5:=J.book b2.out (by rw[← k8.out];exact m7.out) oM a7 (by unfold AM;rw[qg,← k8.out];exact b9)
        have H:zl w9 (w9.setCell _ (a9,r+1,e9)) _:=(zl.refl _ (λb=>b=_+1)).set (a:=(w.heap.size+1+1,2)) rfl _
        have b4:Hid (im w V _ _ _ _ k t _ x L C A B D _):=⟨Tq W _,e5.box H W dC,(k1.trans (zl.of_below a4)).trans (((qY a7).mono (λb e=>.inr (J.u.row.lt b e).1)).trans (H.mono (λb e=>.inl e)))⟩
        clear e5 H;go_wp2;go_roundw
        case rel=>exact⟨_,_,_,by omega,by go_num,b4.out⟩
        case measure=>simp[intOf];omega
      ·obtain rfl:r=R:=by omega
       have b5:=f.kp.blk m1.out (λe=>by have e:=e;omega)
       have l3:=f.q;obtain⟨y0,y1,y2⟩:=ZE l3;obtain⟨s0,s1,s2⟩:=ZE b5;obtain⟨f0,f1,f2⟩:=FM b5;have j2:=IP wr (w.heap.size+1) (av,k,cv) (ae,t,ce) (ab,r,e4);have rF:=Fp b5 (av,k,cv) (ae,t,ce) (ab,r,e4);have m6:=hI ((f.j1.box j2 b5 dC).lower m.size);have m5:=hI (zl.j0 d d.size j2 (λb e=>by have e:=e;omega))
       clear j2 l3 b5;go_wp2;obtain⟨z0,z1,z2⟩:=ZE rF;exact Jj (by simp[results,results70,go_sem,z0,z1,z2]) rfl ⟨⟨av,cv,ae,ce,ab,e4,L,C,A,B,D,E,rfl,m6.out⟩,m5.out⟩
end
end Go.Proofs.YtmdnjgihooflfaaGreatDoor
