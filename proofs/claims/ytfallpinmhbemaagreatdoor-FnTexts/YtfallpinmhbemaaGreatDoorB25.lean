import Derived.Test.YtfallpinmhbemaaGreatDoorB23
import Derived.Test.YtfallpinmhbemaaGreatDoorB05
import Derived.Test.YtfallpinmhbemaaGreatDoorB24
namespace Go.Proofs.YtfallpinmhbemaaGreatDoor
open Go.RowKit
open Go.Value (int)
open Go.IntKind (i64)
set_option maxHeartbeats 64000000
set_option maxRecDepth 1000000
theorem zil (id:Int):ShortS ⟨id,⟨#[79,115,108,111]⟩,⟨#[75,105,101,108]⟩,5,9,noP,noP,9⟩ 100:=⟨by show(4:Nat)<=100;omega,by show(4:Nat)<=100;omega,by show(0:Nat)<=100;omega,by show(0:Nat)<=100;omega⟩
theorem sailingC (d:Nat)(f:Option Addr)(n c a:Nat)(id:Int)(w:World)(ha:a<=100000000000000)(hn:n<=1048576)(h:CurX w d f n c a) :
  Calls Tryz.prog 58 #[.pointer (some ⟨d,0,none⟩),int i64 id] w fun e w'=>(∃ (x:Sail) (vl vc:Value),e=.returned (.agg #[int i64 x.id,.string x.fr,.string x.dst,int i64 x.dep,int i64 x.arr,vl,vc,int i64 x.most])/\Hid (w'.ownsRow w.heap.size 106 2 vl x.la.n (zG x.la)/\w'.ownsRow w.heap.size 110 2 vc x.ca.n (zG x.ca)/\ShortS x 100))/\CurX w' d f n c (a+10000000000000)/\zA w w' (fun b=>b=d):=by
 obtain⟨p,s,hp,g⟩:=h;exact(sailing_any d f n c p s id w (by omega) hn g).mono fun e w' ⟨h1,h2,h3⟩=>⟨h1,h2.more (by omega),h3⟩
theorem zff (f:Nat)(j:Option Addr)(n c a:Nat)(w:World)(ha:a<=1000000000)(hn:n<=1048576)(d:f<w.heap.size)(p:Hid (CodeLow w j n))(h:CurX w f j n c a) :
  Calls Tryz.prog 79 #[.pointer (some ⟨f,0,none⟩)] w fun e w'=>∃ v N S L C,e=.returned v/\(0<N/\N<=7)/\Hid (zgG w w' f j n c 90000000000000 v N S L C):=by
 have h0:zgG w w f j n c a (.slice none 0 0) 0 (fun _=>⟨0,⟨#[]⟩,⟨#[]⟩,0,0,noP,noP,0⟩) (fun _=>.slice none 0 0) (fun _=>.slice none 0 0):=⟨h,zA.refl _ _,Zk.nil _ _ _ _ _,fun i hi=>by omega⟩
 obtain⟨S0,L0,C0,H0⟩:∃ S L C,Hid (zgG w w f j n c a (.slice none 0 0) 0 S L C):=⟨_,_,_,h0⟩;clear h0 h;go_enter Tryz.func79,Tryz.ntmps79;go_wp2_with fail;refine(pickC f j n c a 5 _ (by omega) (by omega) (by omega) H0.out.cur).mono ?_
 rintro e w1 ⟨⟨n0,rfl,e9⟩,a8,b6⟩;have H1:Hid _:=H0.out.on d a8 b6;clear H0 a8 b6;have d6:IntKind.i64.wrap (1+(n0:Int))=((1+n0:Nat):Int):=by rw[IntKind.wrap_i64];omega
 go_wp2_with fail;refine(oneC f j n c (a+1) 24 _ (by omega) (by omega) (by omega) H1.out.cur).mono ?_
 rintro e w2 ⟨⟨b,rfl⟩,b0,c0⟩;have H2:Hid _:=H1.out.on d b0 c0;clear H1 b0 c0;go_upto_if 11 with fail;go_cut [5] (fun vn F=>∃ m:Nat,vn=int i64 m/\(0<m/\m<=7)/\Hid (zgG w F f j n c (a+3) (.slice none 0 0) 0 S0 L0 C0))
 case first =>
  cases b with
  | true =>
   go_wp2_with fail;refine(pickC f j n c (a+1+1) 2 _ (by omega) (by omega) (by omega) H2.out.cur).mono ?_
   rintro e w3 ⟨⟨n1,rfl,f8⟩,I,K⟩;have R:Hid _:=H2.out.on d I K;have g0:IntKind.i64.wrap (6+(n1:Int))=((6+n1:Nat):Int):=by rw[IntKind.wrap_i64];omega
   clear H2 I K;go_wp2;go_meet;exact⟨6+n1,rfl,by omega,R.out⟩
  | false =>
   go_wp2;go_meet;exact⟨1+n0,rfl,by omega,H2.out.more (by omega)⟩
 case rest =>
 obtain⟨m0,rfl,e8,R⟩:=hcut;clear H2 d6;obtain⟨A0,a6⟩:∃ A0,A0=a+3:=⟨_,rfl⟩;rw[← a6] at R;have e4:A0<=2000000000:=by omega
 clear a6;go_wp2_with fail;go_loopw [3,4,5] (fun vl vi vn wr=>∃ (k N:Nat) (c5:Int) (S:Nat->Sail) (L C:Nat->Value),vn=int i64 k/\vi=int i64 c5/\(0<N+k/\N+k<=7)/\Hid (zgG w wr f j n c (A0+N*10000000000100) vl N S L C)) (fun _ _ vn _=>(intOf vn).toNat)
 case atStart=>exact⟨m0,0,0,S0,L0,C0,rfl,rfl,by omega,R.out.more (by omega)⟩
 case round =>
  clear R;clear S0 L0 C0;obtain⟨k,N,c5,S,L,C,rfl,rfl,e7,HR⟩:=hrel;obtain⟨A,hA⟩:∃ A,A=A0+N*10000000000100:=⟨_,rfl⟩;rw[← hA] at HR;have c8:A<=80000000000000:=by omega
  obtain⟨lo,lc,rfl,_⟩:=zt HR.out.lie.row
  by_cases hk0:0<k
  ·have dk:decide ((0:Int)<(k:Int))=true:=by simp;omega
   go_wp2_with fail;refine(pickC f j n c A 3 _ (by omega) (by omega) (by omega) HR.out.cur).mono ?_
   rintro e w3 ⟨⟨r3,rfl,f9⟩,I,K⟩;have R:Hid _:=HR.out.on d I K;clear HR I K;go_wp2_with fail;refine(sailingC f j n c (A+1) _ _ (by omega) hn R.out.cur).mono ?_
   rintro e W ⟨⟨x,vl,vc,rfl,T⟩,b5,c1⟩;obtain⟨la,E,rfl,_⟩:=zt T.out.1;obtain⟨ca,D,rfl,_⟩:=zt T.out.2.1;have H4:Hid _:=R.out.on d b5 c1;have Q:=R.out.kept.size;have V:Hid (W.ownsRow w.heap.size 106 2 (.slice la x.la.n E) x.la.n (zG x.la)/\W.ownsRow w.heap.size 110 2 (.slice ca x.ca.n D) x.ca.n (zG x.ca)/\ShortS x 100):=⟨zE T.out.1 Q,zE T.out.2.1 Q,T.out.2.2⟩;clear R b5 c1 T Q;have a0:=heap_alloc_new W (.cells #[int i64 x.id,.string x.fr,.string x.dst,int i64 x.dep,int i64 x.arr,.slice la x.la.n E,.slice ca x.ca.n D,int i64 x.most] 37);have P:Below W.heap.size W (W.alloc (.cells #[int i64 x.id,.string x.fr,.string x.dst,int i64 x.dep,int i64 x.arr,.slice la x.la.n E,.slice ca x.ca.n D,int i64 x.most] 37)):=zr bZ _;go_upto_region 10 with fail;generalize W.alloc (.cells #[int i64 x.id,.string x.fr,.string x.dst,int i64 x.dep,int i64 x.arr,.slice la x.la.n E,.slice ca x.ca.n D,int i64 x.most] 37)=w5 at a0 P ⊢;have G:Hid (zaV w w5 W.heap.size f j n c (A+1+10000000000000) (.slice lo N lc) N S L C x (.slice la x.la.n E) (.slice ca x.ca.n D)):=⟨H4.out.below P,H4.out.kept.size,a0,fun g hg=>by have:=(H4.out.lie.row.lt g hg).2;omega,zm P V.out.1,zm P V.out.2.1,V.out.2.2⟩
   clear H4 V a0 P;generalize W.heap.size=xb at G ⊢;obtain⟨B,hB⟩:∃ B,B=A+1+10000000000000:=⟨_,rfl⟩;rw[← hB] at G;have e5:B<=92000000000000:=by omega
   have e6:B=A0+N*10000000000100+10000000000001:=by omega
   clear c8 hA hB;obtain⟨m0,m1,m2,m3,m4,m5,m6,m7⟩:=ce8 G.out.box;go_cut [34] (fun v F=>∃ b:Bool,v=.bool b/\Hid (zaV w F xb f j n c (B+1) (.slice lo N lc) N S L C x (.slice la x.la.n E) (.slice ca x.ca.n D)))
   case first =>
    go_wp2_with fail;refine(Zw _ _ _ _ _ _ _ _ _ _ _ _ x.la x.ca _ rfl rfl (by have:=G.out.sx.1;omega) (by have:=G.out.sx.2.1;omega) (by have:=G.out.sx.2.2.1;omega) (by have:=G.out.sx.2.2.2;omega) (pairs_of_own G.out.la) (pairs_of_own G.out.ca)).mono ?_
    rintro e w6 ⟨⟨g6,rfl,_⟩,a7⟩;have U:Hid _:=G.out.below a7;clear G a7 m0 m1 m2 m3 m4 m5 m6 m7
    cases g6 with
    | true =>
     go_wp2;go_meet;exact⟨_,rfl,U.out.more (by omega)⟩
    | false =>
     go_wp2_with fail;refine(oneC f j n c B 6 _ (by omega) (by omega) (by omega) U.out.l.cur).mono ?_
     rintro e w7 ⟨⟨b7,rfl⟩,J,O⟩;have Y:Hid _:=U.out.on d J O;clear U J O;go_wp2;go_meet;exact⟨_,rfl,Y.out⟩
   case rest =>
   obtain⟨b8,rfl,H⟩:=hcut;clear G m0 m1 m2 m3 m4 m5 m6 m7;go_upto_if 34 with fail;go_cut [] (fun F=>∃ y X wc,Hid (zaV w F xb f j n c (B+1) (.slice lo N lc) N S L C y X wc))
   case first =>
    cases b8 with
    | true =>
     obtain⟨m0,m1,m2,m3,m4,m5,m6,m7⟩:=ce8 H.out.box;obtain⟨f0,f1,f2,f3,f4,f5,f6,f7⟩:=fe8 H.out.box;go_wp2;go_meet;exact⟨⟨_,⟨#[79,115,108,111]⟩,⟨#[75,105,101,108]⟩,5,9,noP,noP,9⟩,_,_,H.out.whole d p.out rfl (show World.ownsRow _ _ _ 2 _ 0 [] from World.ownsRow_nil _ _ _ _) (show World.ownsRow _ _ _ 2 _ 0 [] from World.ownsRow_nil _ _ _ _) (zil _)⟩
    | false =>
     go_wp2;go_meet;exact⟨_,_,_,H.out⟩
   case rest =>
   obtain⟨y,X,e0,HY⟩:=hcut;clear H;go_upto_region 12 with fail;go_cut [43] (fun v F=>∃ b:Bool,v=.bool b/\(b=true->0<N)/\Hid (zaV w F xb f j n c (B+2) (.slice lo N lc) N S L C y X e0))
   case first =>
    by_cases hN0:N=0
    ·have c7:decide ((0:Int)<(N:Int))=false:=by simp;omega
     go_wp2;go_meet;exact⟨false,rfl,fun e=>(by cases e),HY.out.more (by omega)⟩
    ·have c7:decide ((0:Int)<(N:Int))=true:=by simp;omega
     go_wp2_with fail;refine(oneC f j n c (B+1) 2 _ (by omega) (by omega) (by omega) HY.out.l.cur).mono ?_
     rintro e w7 ⟨⟨b7,rfl⟩,J,O⟩;have Y:Hid _:=HY.out.on d J O;clear HY J O;go_wp2;go_meet;exact⟨_,rfl,fun _=>by omega,Y.out⟩
   case rest =>
   obtain⟨b9,rfl,Z,l⟩:=hcut;clear HY;go_upto_if 43 with fail;go_cut [] (fun F=>∃ y X wc,Hid (zaV w F xb f j n c (B+2) (.slice lo N lc) N S L C y X wc))
   case first =>
    cases b9 with
    | false =>
     go_wp2;go_meet;exact⟨_,_,_,l.out⟩
    | true =>
     obtain⟨M,rfl⟩:∃ M,N=M+1:=⟨N - 1,by have:=Z rfl;omega⟩
     obtain⟨g,rfl,_,_⟩:=qw l.out.l.lie.row (by omega)
     have g1:IntKind.i64.wrap ((((M+1:Nat)):Int) - 1)=(M:Int):=by rw[IntKind.wrap_i64];omega
     have e1:IntKind.i64.wrap (M:Int)=(M:Int):=by rw[IntKind.wrap_i64];omega
     have e2:(0:Int)<=(M:Int):=by omega
     have e3:(M:Int)<(M:Int)+1:=by omega
     have d5:=l.out.l.short M (by omega)
     clear Z;have m1:=za l.out.box 1 _ rfl;have f1:=zg l.out.box 1;have l2:=(zK l.out.l.lie.row (M*8+2) (by omega) rfl).trans (congrArg some (sailCell_2 S L C M))
     have q:Hid _:=l.out.fr d p.out (S M).dst d5.2.1;go_upto_region 14 with fail;generalize World.setCell _ _ _=v1 at q ⊢;obtain⟨y1,c4⟩:∃ z,z={ y with fr:=(S M).dst }:=⟨_,rfl⟩;rw[← c4] at q;clear l c4 m1 f1 l2;have m3:=za q.out.box 3 _ rfl;have f3:=zg q.out.box 3;have l4:=(zK q.out.l.lie.row (M*8+4) (by omega) rfl).trans (congrArg some (sailCell_4 S L C M))
     go_cut [] (fun F=>∃ y X wc,Hid (zaV w F xb f j n c (B+2) (.slice (some ⟨g,0,none⟩) (M+1) lc) (M+1) S L C y X wc))
     case first =>
      go_region
      all_goals
       go_wp2;go_meet
       first|exact⟨_,_,_,q.out.dep d p.out _⟩|exact⟨_,_,_,(q.out.dep d p.out _).below bZ.drew⟩
     case rest =>
     obtain⟨y2,g5,g2,s⟩:=hcut;clear q m3 f3 l4;have m4:=za s.out.box 4 _ rfl;have f4:=zg s.out.box 4;have l4:=(zK s.out.l.lie.row (M*8+4) (by omega) rfl).trans (congrArg some (sailCell_4 S L C M))
     go_upto_region 15 with fail;go_cut [] (fun F=>∃ y X wc,Hid (zaV w F xb f j n c (B+2) (.slice (some ⟨g,0,none⟩) (M+1) lc) (M+1) S L C y X wc))
     case first =>
      go_region
      all_goals
       go_wp2;go_meet
       first|exact⟨_,_,_,s.out.arr d p.out _⟩|exact⟨_,_,_,(s.out.arr d p.out _).below bZ.drew⟩
     case rest =>
     obtain⟨y3,g7,g3,t⟩:=hcut;clear s m4 f4 l4;have m1:=za t.out.box 1 _ rfl;have m2:=za t.out.box 2 _ rfl;have f1:=zg t.out.box 1;have f2:=zg t.out.box 2;have c6:Hid _:=t.out.to d p.out ⟨#[90,117,103]⟩ (by show(3:Nat)<=100;omega)
     go_wp2
     all_goals
      go_meet
      first|exact⟨_,_,_,c6.out⟩|exact⟨_,_,_,t.out⟩
   case rest =>
   obtain⟨o,g8,g4,r⟩:=hcut;clear l Z;obtain⟨a3,a5,rfl,_⟩:=zt r.out.la;obtain⟨a1,a2,rfl,_⟩:=zt r.out.ca;obtain⟨m0,m1,m2,m3,m4,m5,m6,m7⟩:=ce8 r.out.box;obtain⟨j0,ji,d7,d8,d9⟩:=info_parts Tryz.infoSailing;have T:Hid (zaV w (wc.alloc (.cells #[int i64 o.id,.string o.fr,.string o.dst,int i64 o.dep,int i64 o.arr,.slice a3 o.la.n a5,.slice a1 o.ca.n a2,int i64 o.most] 37)) xb f j n c (B+2) (.slice lo N lc) N S L C o (.slice a3 o.la.n a5) (.slice a1 o.ca.n a2)):=r.out.below (zr bZ _);have c3:=T.out.l.kept.size;clear r;go_wp2_with (first|(at_builtin;refine zz _ (by rfl) (.tmp 80) (.tmp 82) 62 (by rfl) w.heap.size 37 j0 (.agg #[int i64 0,.string ⟨#[]⟩,.string ⟨#[]⟩,int i64 0,int i64 0,.slice none 0 0,.slice none 0 0,int i64 0]) 8 112 Tryz.underlying62 ji d7 d8 d9 rfl (by decide) _ N _ (by rfl) T.out.l.lie.row (some ⟨wc.heap.size,0,none⟩) 1 1 [int i64 o.id,.string o.fr,.string o.dst,int i64 o.dep,int i64 o.arr,.slice a3 o.la.n a5,.slice a1 o.ca.n a2,int i64 o.most] (by rfl) (fun h=>by cases h) (by rfl) (fun ad h=>by cases h;exact World.news_of_block (heap_alloc_new wc _)) (by intro u hu;simp only[List.mem_cons,List.not_mem_nil,or_false] at hu;rcases hu with rfl|rfl|rfl|rfl|rfl|rfl|rfl|rfl <;> rfl) (by unfold maxLen;omega) (by omega) c3 ?_;intro v9 w9 c2 d0;obtain⟨a9,c9,rfl,_⟩:=zt c2))
   have HN:Hid _:=T.out.snoc d p.out d0 c2;go_roundw
   case rel=>exact⟨k - 1,N+1,_,_,_,_,by go_num,rfl,by omega,HN.out.more (by omega)⟩
   case measure=>simp[intOf];omega
  ·obtain rfl:k=0:=by omega
   go_wp2;exact bodyPost_ret (v:=.slice lo N lc) (by simp[results,Tryz.results79,go_sem]) rfl ⟨_,N,S,L,C,rfl,by omega,HR.out.more (by omega)⟩
theorem bs_push (a:List UInt8)(x:UInt8):(⟨a.toArray⟩:ByteArray)++ByteArray.empty.push x=⟨(a++[x]).toArray⟩:=by
 apply ByteArray.ext
 simp[ByteArray.data_append]
theorem conv_at (W:World)(b:Nat)(x:Int)(h:W.heap[b]?=some (.cells #[.int .u8 x] 5 (0,0))) :
  (convert 22 9 (.slice (some ⟨b,0,none⟩) 1 1)).run Tryz.prog W=.ok (.string (ByteArray.empty.push (UInt8.ofNat x.toNat))) W:=by
 rw[run_convert_bytes_string _ 22 9 5 _ 1 1 Tryz.underlying22 Tryz.underlying5 Tryz.underlying9];exact run_bytesToString _ _ 1 1 [x] (run_loadCells_list _ _ [.int .u8 x] (fun j v a=>by
  cases j with
  | zero=>simp at a;subst a;exact za h 0 _ rfl
  | succ j=>simp at a))
theorem dec_step {u:Nat}(h:¬ u<10):Lib.decDigits u=Lib.decDigits (u / 10)++[UInt8.ofNat (48+(u:Int) % 10).toNat]:=by
 rw[Lib.decDigits,dif_neg h]
 rfl
theorem zhM (u:Nat)(h:u<=9223372036854775807):(Lib.decDigits u).length<=100:=by
 rw[Lib.decDigits_length];have b:∀ k u,u<10 ^ (k+1)->Lib.nDigits u<=k+1:=by
  intro k
  induction k with
  | zero=>intro u a;rw[Lib.nDigits_small (by simpa using a)];omega
  | succ k ih =>
   intro u a
   by_cases c:u<10
   ·rw[Lib.nDigits_small c];omega
   ·rw[Lib.nDigits_big c]
    have:=ih (u / 10) (by rw[Nat.pow_succ] at a;omega)
    omega
 have:=b 18 u (by omega)
 omega
theorem l1Num_nat:∀ (u:Nat)(w:World),u<=9223372036854775807 ->
  Calls Tryz.prog 47 #[int i64 u] w fun e w'=>e=.returned (.string ⟨(Lib.decDigits u).toArray⟩)/\Below w.heap.size w w':=by
 intro u
 induction u using Nat.strongRecOn with
 | _ u ih =>
  intro w hu;have d0:decide ((u:Int)<0)=false:=decide_eq_false (by omega)
  by_cases h10:u<10
  ·have d1:decide ((u:Int)<10)=true:=decide_eq_true (by omega)
   have f:IntKind.i64.wrap (48+(u:Int))=48+(u:Int):=by rw[IntKind.wrap_i64];omega
   have g:IntKind.u8.wrap (48+(u:Int))=48+(u:Int):=by unfold IntKind.wrap;simp[IntKind.bits,IntKind.signed];omega
   have hc:=conv_at (w.alloc (.cells #[.int .u8 (48+(u:Int))] 5)) w.heap.size (48+(u:Int)) (heap_alloc_new _ _);have c:Below w.heap.size w (w.alloc (.cells #[.int .u8 (48+(u:Int))] 5)):=zr bZ _;go_enter Tryz.func47,Tryz.ntmps47;go_wp2;go_ret;refine⟨?_,c⟩;rw[Lib.decDigits_one h10]
   congr 3
  ·have d1:decide ((u:Int)<10)=false:=decide_eq_false (by omega)
   have f:IntKind.i64.wrap (48+(u:Int) % 10)=48+(u:Int) % 10:=by rw[IntKind.wrap_i64];omega
   have g:IntKind.u8.wrap (48+(u:Int) % 10)=48+(u:Int) % 10:=by unfold IntKind.wrap;simp[IntKind.bits,IntKind.signed];omega
   have hq:IntKind.i64.wrap ((u:Int) / 10)=(u:Int) / 10:=by rw[IntKind.wrap_i64];omega
   have q:(u:Int).tmod 10=(u:Int) % 10:=Int.tmod_eq_emod_of_nonneg (by omega)
   have j:Hid (∀ W:World,Calls Tryz.prog 47 #[int i64 ((u:Int) / 10)] W fun e w'=>e=.returned (.string ⟨(Lib.decDigits (u / 10)).toArray⟩)/\Below W.heap.size W w'):=fun W=>ih (u / 10) (by omega) W (by omega)
   have a:Hid (∀ W b,W.heap[b]?=some (.cells #[.int .u8 (48+(u:Int) % 10)] 5 (0,0))->(convert 22 9 (.slice (some ⟨b,0,none⟩) 1 1)).run Tryz.prog W=.ok (.string (ByteArray.empty.push (UInt8.ofNat (48+(u:Int) % 10).toNat))) W):=fun W b h=>conv_at W b _ h
   have p:=zhM (u / 10) (by omega)
   have i:∀ W:World,(Op.stringOp .add ⟨(Lib.decDigits (u / 10)).toArray⟩ (ByteArray.empty.push (UInt8.ofNat (48+(u:Int) % 10).toNat))).run Tryz.prog W=.ok (.string (⟨(Lib.decDigits (u / 10)).toArray⟩++ByteArray.empty.push (UInt8.ofNat (48+(u:Int) % 10).toNat))) W:=fun W=>run_string_add_sum W _ _ (by
    show(Lib.decDigits (u / 10)).toArray.size+1<=_
    rw[List.size_toArray];omega)
   clear ih;go_enter Tryz.func47,Tryz.ntmps47;go_upto_region 7 with fail;have k:=a.out (w.drew.alloc (.cells #[.int .u8 (48+(u:Int) % 10)] 5)) _ (heap_alloc_new _ _);have n:=a.out (w.alloc (.cells #[.int .u8 (48+(u:Int) % 10)] 5)).drew w.heap.size (heap_alloc_new w _);have l:=a.out (w.alloc (.cells #[.int .u8 (48+(u:Int) % 10)] 5)) _ (heap_alloc_new _ _);go_region_with (first
    | (go_at_call 47;(with_reducible refine Calls.mono (j.out _) ?_);rintro e w' ⟨rfl,c⟩;have m:=a.out (w'.alloc (.cells #[.int .u8 (48+(u:Int) % 10)] 5)) _ (heap_alloc_new _ _);have o:=a.out (w'.alloc (.cells #[.int .u8 (48+(u:Int) % 10)] 5)).drew w'.heap.size (heap_alloc_new w' _);(first | (have d:=a.out w' w.heap.size (zc (heap_alloc_new w.drew _) c)) | (have d:=a.out w' w.heap.size (zc (heap_alloc_new w _) c)) | skip)))
   all_goals
    go_wp2;go_ret;refine⟨?_,?_⟩
    ·refine Eq.trans (b:=.returned (.string (⟨(Lib.decDigits (u / 10)).toArray⟩++ByteArray.empty.push (UInt8.ofNat (48+(u:Int) % 10).toNat)))) rfl ?_
     rw[bs_push,dec_step h10]
    ·first|exact zj (zj bZ.drew c) (zr bZ _)|exact zj (zr bZ _).drew c|exact zj (zr bZ _) (c.drew)
theorem zds (pe len hei cl:Int)(all:Bool)(be:Int)(w:World) :
  Calls Tryz.prog 82 #[.agg #[int i64 pe,int i64 len,int i64 hei,int i64 cl,.bool all,int i64 be]] w fun e w'=>e=.returned (.bool (decide (¬ (len=0/\hei=0))))/\Below w.heap.size w w':=by
 obtain⟨c,d⟩:∃ c,c=decide (¬ (len=0/\hei=0)):=⟨_,rfl⟩;rw[← d];have a:=hI d;clear d
 by_cases h1:len=0
 ·subst h1
  by_cases h2:hei=0
  ·subst h2
   go_enter Tryz.func82,Tryz.ntmps82;go_wp2;go_ret;exact⟨by rw[a.out];rfl,zr bZ _⟩
  ·have e2:(hei != 0)=true:=by simpa using h2
   have b:Hid (c=true):=by rw[a.out];exact decide_eq_true (fun h=>h2 h.2)
   clear h2;go_enter Tryz.func82,Tryz.ntmps82;go_wp2;go_ret;exact⟨by rw[b.out];rfl,zr bZ _⟩
 ·have e1:(len != 0)=true:=by simpa using h1
  have b:Hid (c=true):=by rw[a.out];exact decide_eq_true (fun h=>h1 h.1)
  clear h1;go_enter Tryz.func82,Tryz.ntmps82;go_wp2;go_ret;exact⟨by rw[b.out];rfl,zr bZ _⟩
theorem zaK (pe len hei cl:Int)(all:Bool)(be:Int)(w:World) :
  Calls Tryz.prog 84 #[.agg #[int i64 pe,int i64 len,int i64 hei,int i64 cl,.bool all,int i64 be]] w fun e w'=>e=.returned (.bool (decide (¬ (cl=0/\all=false/\be=0))))/\Below w.heap.size w w':=by
 obtain⟨c,d⟩:∃ c,c=decide (¬ (cl=0/\all=false/\be=0)):=⟨_,rfl⟩;rw[← d];have b:=hI d;clear d
 by_cases h1:cl=0
 ·subst h1
  cases all with
  | true =>
   have a:Hid (c=true):=by rw[b.out];exact decide_eq_true (fun h=>by cases h.2.1)
   go_enter Tryz.func84,Tryz.ntmps84;go_wp2;go_ret;exact⟨by rw[a.out];rfl,zr bZ _⟩
  | false =>
   by_cases h2:be=0
   ·subst h2
    go_enter Tryz.func84,Tryz.ntmps84;go_wp2;go_ret;exact⟨by rw[b.out];rfl,zr bZ _⟩
   ·have e2:(be != 0)=true:=by simpa using h2
    have a:Hid (c=true):=by rw[b.out];exact decide_eq_true (fun h=>h2 h.2.2)
    clear h2;go_enter Tryz.func84,Tryz.ntmps84;go_wp2;go_ret;exact⟨by rw[a.out];rfl,zr bZ _⟩
 ·have e1:(cl != 0)=true:=by simpa using h1
  have a:Hid (c=true):=by rw[b.out];exact decide_eq_true (fun h=>h1 h.1)
  clear h1;go_enter Tryz.func84,Tryz.ntmps84;go_wp2;go_ret;exact⟨by rw[a.out];rfl,zr bZ _⟩
theorem zbh (x:Int)(w:World) :
  Calls Tryz.prog 35 #[int i64 x] w fun e w'=>e=.returned (.bool (decide (In x 0 10000)))/\w'=w:=by
 go_enter Tryz.func35,Tryz.ntmps35;go_wp2_with (first|(go_at_call 31;refine(ql _ _ _ _).mono ?_;rintro e w' ⟨rfl,rfl⟩))
 go_ret;exact⟨rfl,rfl⟩
theorem qg (a b c:Bool)(w:World) :
  Calls Tryz.prog 32 #[.bool a,.bool b,.bool c] w fun e w'=>e=.returned (.bool (if a then b else c))/\w'=w:=by
 cases a with
 | true =>
  go_enter Tryz.func32,Tryz.ntmps32;go_wp2;go_ret;exact⟨rfl,rfl⟩
 | false =>
  go_enter Tryz.func32,Tryz.ntmps32;go_wp2;go_ret;exact⟨rfl,rfl⟩
theorem zdt (b:Int)(w:World):Calls Tryz.prog 81 #[.int .u8 b] w fun e w'=>e=.returned (.bool (decide (Qx b)))/\w'=w:=by
 obtain⟨c,d⟩:∃ c,c=decide (Qx b):=⟨_,rfl⟩;rw[← d];have a:=hI d;clear d
 by_cases h1:97<=b
 ·have i:decide (97<=b)=true:=by simpa using h1
  by_cases h2:b<=122
  ·have j:decide (b<=122)=true:=by simpa using h2
   go_enter Tryz.func81,Tryz.ntmps81;go_wp2;go_ret;exact⟨by rw[a.out,decide_eq_true (.inl ⟨h1,h2⟩)];rfl,rfl⟩
  ·have j:decide (b<=122)=false:=by simpa using h2
   have f:decide (65<=b)=true:=by simp;omega
   have g:decide (b<=90)=false:=by simp;omega
   go_enter Tryz.func81,Tryz.ntmps81;go_wp2;go_ret;exact⟨by rw[a.out,decide_eq_false (by rintro(h|h) <;> omega)];rfl,rfl⟩
 ·have i:decide (97<=b)=false:=by simpa using h1
  by_cases h3:65<=b
  ·have f:decide (65<=b)=true:=by simpa using h3
   by_cases h4:b<=90
   ·have g:decide (b<=90)=true:=by simpa using h4
    go_enter Tryz.func81,Tryz.ntmps81;go_wp2;go_ret;exact⟨by rw[a.out,decide_eq_true (.inr ⟨h3,h4⟩)];rfl,rfl⟩
   ·have g:decide (b<=90)=false:=by simpa using h4
    go_enter Tryz.func81,Tryz.ntmps81;go_wp2;go_ret;exact⟨by rw[a.out,decide_eq_false (by rintro(h|h) <;> omega)];rfl,rfl⟩
  ·have f:decide (65<=b)=false:=by simpa using h3
   go_enter Tryz.func81,Tryz.ntmps81;go_wp2;go_ret;exact⟨by rw[a.out,decide_eq_false (by rintro(h|h) <;> omega)];rfl,rfl⟩
theorem zip (s:ByteArray)(w:World)(hs:s.size<=1000000000000000) :
  Calls Tryz.prog 33 #[.string s] w fun e w'=>SaysIf (qK s) e/\w'=w:=by
 by_cases h0:In (s.size:Int) 1 12
 ·have b:=hI h0
  have g:decide (In (s.size:Int) 1 12)=true:=decide_eq_true h0;have m:s.size<=12:=by have:=h0.2;omega
  clear h0;go_enter Tryz.func33,Tryz.ntmps33;go_wp2_with (first|(go_at_call 31;refine sC (ql _ _ _ _) ?_))
  go_loop [3,10] (fun _ i=>∃ k:Nat,k<=s.size/\i=int i64 k/\∀ j,j<k->Qx (zbs s j)) (fun _ i=>s.size - (intOf i).toNat)
  case atStart=>exact⟨0,Nat.zero_le _,rfl,fun j l=>by omega⟩
  case round =>
   obtain⟨k,hk,rfl,a⟩:=hrel;have f:=hI a;clear a
   by_cases hlt:k<s.size
   ·by_cases hL:Qx (zbs s k)
    ·have d:decide (Qx (zbs s k))=true:=decide_eq_true hL
     have c:=hI hL;clear hL;rw[← zbG s k hlt] at d;go_wp2_with (first|(go_at_call 81;refine sC (zdt _ _) ?_))
     go_round
     case rel=>exact⟨k+1,by omega,by go_num,fun j l=>by
      by_cases e:j=k
      ·subst e;exact c.out
      ·exact f.out j (by omega)⟩
     case measure=>simp[intOf];omega
    ·have d:decide (Qx (zbs s k))=false:=decide_eq_false hL
     have c:=hI hL;clear hL;rw[← zbG s k hlt] at d;go_wp2_with (first|(go_at_call 81;refine sC (zdt _ _) ?_))
     go_ret;exact⟨zC (fun h=>c.out (h.2.2 k hlt)),rfl⟩
   ·obtain rfl:k=s.size:=by omega
    go_wp2;go_ret;exact⟨says_yes ⟨by have:=b.out.1;omega,by have:=b.out.2;omega,f.out⟩,rfl⟩
 ·have b:=hI h0
  have g:decide (In (s.size:Int) 1 12)=false:=decide_eq_false h0;clear h0;go_enter Tryz.func33,Tryz.ntmps33;go_wp2_with (first|(go_at_call 31;refine sC (ql _ _ _ _) ?_))
  go_ret;exact⟨zC (fun h=>b.out ⟨by have:=h.1;omega,by have:=h.2.1;omega⟩),rfl⟩
theorem Zz (s:ByteArray)(w:World)(a:s.size<=1000000000000000) :
  Calls Tryz.prog 33 #[.string s] w fun e w'=>e=.returned (.bool (decide (qK s)))/\w'=w:=by
 refine(zip s w a).mono ?_;rintro e w' ⟨⟨b',rfl,h⟩,rfl⟩;rw[bool_eq h (decide_eq_true_iff (p:=qK s))];exact⟨rfl,rfl⟩
theorem isCar_is (x y:Int)(w:World) :
  Calls Tryz.prog 83 #[int i64 x,int i64 y] w fun e w'=>e=.returned (.bool (decide (In x 1 2000/\In y 1 500)))/\w'=w:=by
 obtain⟨c,f⟩:∃ c,c=decide (In x 1 2000/\In y 1 500):=⟨_,rfl⟩;rw[← f];have d:=hI f;clear f
 by_cases h1:In x 1 2000
 ·have g:decide (In x 1 2000)=true:=decide_eq_true h1
  have a:=hI h1;clear h1
  by_cases h2:In y 1 500
  ·have i:decide (In y 1 500)=true:=decide_eq_true h2
   have b:=hI h2;clear h2;go_enter Tryz.func83,Tryz.ntmps83;go_wp2_with (first|(go_at_call 31;refine sC (ql _ _ _ _) ?_))
   go_ret;exact⟨by rw[d.out,decide_eq_true ⟨a.out,b.out⟩];rfl,rfl⟩
  ·have i:decide (In y 1 500)=false:=decide_eq_false h2
   have b:=hI h2;clear h2;go_enter Tryz.func83,Tryz.ntmps83;go_wp2_with (first|(go_at_call 31;refine sC (ql _ _ _ _) ?_))
   go_ret;exact⟨by rw[d.out,decide_eq_false (fun h=>b.out h.2)];rfl,rfl⟩
 ·have g:decide (In x 1 2000)=false:=decide_eq_false h1
  have a:=hI h1;clear h1;go_enter Tryz.func83,Tryz.ntmps83;go_wp2_with (first|(go_at_call 31;refine sC (ql _ _ _ _) ?_))
  go_ret;exact⟨by rw[d.out,decide_eq_false (fun h=>a.out h.1)];rfl,rfl⟩
theorem QR (x:Int)(w:World) :
  Calls Tryz.prog 97 #[int i64 x] w fun e w'=>e=.returned (.bool (decide (In x 1 3)))/\w'=w:=by
 go_enter Tryz.func97,Tryz.ntmps97;go_wp2_with (first|(go_at_call 31;refine sC (ql _ _ _ _) ?_))
 go_ret;exact⟨rfl,rfl⟩
theorem zbi (x:Int)(w:World) :
  Calls Tryz.prog 98 #[int i64 x] w fun e w'=>e=.returned (.bool (decide (In x 1 4)))/\w'=w:=by
 go_enter Tryz.func98,Tryz.ntmps98;go_wp2_with (first|(go_at_call 31;refine sC (ql _ _ _ _) ?_))
 go_ret;exact⟨rfl,rfl⟩
theorem zfn (q:Option Addr)(n c:Nat)(p:qi)(w:World)(hl:p.n=n)(hn:n<=1048576)(x:qd w q p) :
  Calls Tryz.prog 62 #[.slice q n c] w fun e w'=>SaysIf (ZG p 4 1 5000 100 500) e/\Below w.heap.size w w':=by
 have f:=hI hl;clear hl
 by_cases h0:n<=4
 ·have r:decide (4<n)=false:=by simp;omega
  go_enter Tryz.func62,Tryz.ntmps62;go_wp2;go_loopw [4,10] (fun _ i wr=>∃ k:Nat,k<=n/\i=int i64 k/\(∀ j,j<k->In (p.A j) 1 5000/\In (p.B j) 100 500)/\Below w.heap.size w wr) (fun _ i _=>n - (intOf i).toNat)
  case atStart=>exact⟨0,Nat.zero_le _,rfl,fun j l=>by omega,bZ⟩
  case round =>
   obtain⟨k,hk,rfl,d,a⟩:=hrel;have o:=hI d;clear d r
   by_cases hlt:k<n
   ·obtain⟨b,off,rfl,m,s⟩:=x k (by rw[f.out];omega)
    have t:=World.block_lt_of_cell? w _ m;have c1:=(a.cell (p:=⟨b,off+k*2,none⟩) t).trans m;have c2:=(a.cell (p:=⟨b,off+k*2+1,none⟩) t).trans s;clear m s
    by_cases g1:In (p.A k) 1 5000
    ·have u:decide (In (p.A k) 1 5000)=true:=decide_eq_true g1
     by_cases g2:In (p.B k) 100 500
     ·have v:decide (In (p.B k) 100 500)=true:=decide_eq_true g2
      have g:Hid (In (p.A k) 1 5000/\In (p.B k) 100 500):=⟨g1,g2⟩;clear g1 g2;go_wp2_with (first|(go_at_call 31;refine sC (ql _ _ _ _) ?_))
      go_roundw
      case rel=>exact⟨k+1,by omega,by go_num,fun j l=>by
       by_cases e:j=k
       ·subst e;exact g.out
       ·exact o.out j (by omega),zr a _⟩
      case measure=>simp[intOf];omega
     ·have v:decide (In (p.B k) 100 500)=false:=decide_eq_false g2
      have g:=hI g2;clear g1 g2;go_wp2_with (first|(go_at_call 31;refine sC (ql _ _ _ _) ?_))
      go_ret;exact⟨zC (fun h=>g.out (h.2 k (by rw[f.out];exact hlt)).2),zr a _⟩
    ·have u:decide (In (p.A k) 1 5000)=false:=decide_eq_false g1
     have g:=hI g1;clear g1;go_wp2_with (first|(go_at_call 31;refine sC (ql _ _ _ _) ?_))
     go_ret;exact⟨zC (fun h=>g.out (h.2 k (by rw[f.out];exact hlt)).1),zr a _⟩
   ·obtain rfl:k=n:=by omega
    go_wp2;go_ret;exact⟨says_yes ⟨by rw[f.out];exact h0,fun j l=>o.out j (by rw[f.out] at l;exact l)⟩,a⟩
 ·have r:decide (4<n)=true:=by simp;omega
  go_enter Tryz.func62,Tryz.ntmps62;go_wp2;go_ret;exact⟨zC (fun h=>by have:=h.1;rw[f.out] at this;exact h0 this),bZ⟩
section
open Go.ChangeShapes Go.WideShapes Go.ChangeAt Go.RowKit Go.Deep Go.Joins
theorem Tryz.own:ownKnob Tryz.prog.godebug=none:=by kernel_rfl
theorem Tryz.laidOut:laidOutB Tryz.prog=true:=by kernel_rfl
theorem Tryz.cellsByte:Tryz.prog.cellsOf 5=1:=by kernel_rfl
theorem Tryz.bytesByte:Tryz.prog.bytesOf 5=1:=by kernel_rfl
theorem zdH {P:Program}{t e:Nat}{w:World}{r:Reach}{base:Nat}{v:Value}(a:P.underlying t=some (.slice e))(h:Value.okWide P w r base t v):v.cells.toList=[v]:=by
 simp only[Value.okWide,a,Cell.okWide] at h
 cases v <;> simp_all [Cell.ok,Value.cells]
theorem wf_u8_in {n:Int}(h:(Lit.int .u8 n).wf=true):0<=n/\n<=255:=by
 have h1:IntKind.u8.min=0:=rfl;have h2:IntKind.u8.max=255:=rfl;simp[Lit.wf] at h
 omega
theorem zgD {H:Type}{enc:TypeId × Value->H}{W:World}{base:Nat}{v:Value}{d:DataW H}{p:List MemPlace}(s:Value.okWide Tryz.prog W .any base 22 v)
  (h:DataW.Trod enc Tryz.prog W 0 (fun _=>true) true 22 v d p) (t:∀ x ∈ DataW.weights Tryz.prog 22 d,x<=reachBytes) :
  ∃ ao n c,v=.slice ao n c/\n<=1000000000000000/\BytesAt W ao n:=by
 obtain⟨fuel,m⟩:=h;rw[zdH Tryz.underlying22 s] at m
 rcases open_ints Tryz.underlying22 Tryz.underlying5 Tryz.cellsByte m with⟨e,o⟩|⟨a,n,cap,g,e,_,hl,hm,u,o,f,j⟩
 ·simp at e
  subst e;exact⟨none,0,0,rfl,by omega,fun k q=>by omega⟩
 ·simp at e
  subst e;simp only[if_true] at u;have r:=len_reach (H:=H) (n:=n) Tryz.underlying22 Tryz.bytesByte (.inr ⟨lits .u8 (g.take n),lits .u8 (g.drop n),by simpa using congrArg Prod.fst o,by simp[lits];omega⟩) t
  unfold reachBytes at r;refine⟨some a,n,cap,rfl,by omega,fun k q=>?_⟩
  obtain⟨b,off,rfl,i⟩:=ints_at f (by omega)
  have l:=wf_u8_in (j (g.getD k 0) (by rw[List.getD_eq_getElem?_getD,List.getElem?_eq_getElem (by omega)];exact List.getElem_mem _))
  exact⟨b,off,g.getD k 0,rfl,i k (by omega),l.1,l.2⟩
end
end Go.Proofs.YtfallpinmhbemaaGreatDoor
