import Derived.Test.YtgmdnkngnhkgbaaGreatB22
import Derived.Test.YtgmdnkngnhkgbaaGreatB05
namespace Go.Proofs.YtgmdnkngnhkgbaaGreat
open Go.RowKit
open Go.Value (int)
open Go.IntKind (i64)
set_option maxHeartbeats 64000000
set_option maxRecDepth 1000000
theorem cover {P:Nat->Prop}{B:Nat->Int}(m:Nat):∀ (n:Nat)(F:Nat->Int),cnt P m=n->(∀ i,i<m->P i->Has F n (B i))->(∀ i,i<m->∀ j,j<i->B j≠B i)->∀ j,j<n->∃ i,i<m/\P i/\B i=F j:=by
 induction m with
 | zero=>intro n F h _ _ j f;rw[cnt] at h;omega
 | succ m ih =>
  intro n F h o l j f
  by_cases c:P m
  ·rw[Ze c] at h
   obtain⟨r,hr,p⟩:=o m (by omega) c
   obtain⟨n,rfl⟩:∃ n',n=n'+1:=⟨n - 1,by omega⟩
   have k:=ih n (ZN F r) (by omega) (fun i b a=>(zcK (by omega) (fun e=>l m (by omega) i b (by rw[← e,p]))).2 (o i (by omega) a)) (fun i b j f=>l i (by omega) j f)
   by_cases e:j=r
   ·exact⟨m,by omega,c,by rw[e,p]⟩
   ·by_cases d:j<r
    ·obtain⟨i,b,a,g⟩:=k j (by omega)
     exact⟨i,by omega,a,by rw[g,ZW d]⟩
    ·obtain⟨i,b,a,g⟩:=k (j - 1) (by omega)
     exact⟨i,by omega,a,by rw[g,Qu (by omega),show j - 1+1=j by omega]⟩
  ·rw[Zu c] at h
   obtain⟨i,b,a,g⟩:=ih n F h (fun i b a=>o i (by omega) a) (fun i b j f=>l i (by omega) j f) j f
   exact⟨i,by omega,a,g⟩
theorem ql.whos {o:Off}(h:ql o):∀ i,i<o.bkn->∀ j,j<i->(o.bk j).who≠(o.bk i).who:=fun i a j b=>(h.2.2.2.2.1 i a).2.2.2.2.2.2.2.1 j b
theorem ql.seat_of {o:Off}(h:ql o){k:Nat}(d:k<o.san){j:Nat}(c:j<(o.ld k).sen):∃ i,i<o.bkn/\On o k i/\(o.bk i).who=((o.ld k).se j).who:=by
 obtain⟨l,_,_,a⟩:=h.2.2.2.2.2 k d;refine cover (P:=On o k) (B:=fun i=>(o.bk i).who) o.bkn _ (ZG (o.ld k).se) a.symm (fun i b f=>?_) h.whos j c
 obtain⟨q,g,e,_⟩:=(l i b f).1;exact⟨q,g,e⟩
theorem ql.stay_of {o:Off}(h:ql o){k:Nat}(f:k<o.san){j:Nat}(d:j<(o.ld k).stn):∃ i,i<o.bkn/\(On o k i/\0<(o.bk i).len)/\(o.bk i).who=((o.ld k).st j).who:=by
 obtain⟨l,b,_,_⟩:=h.2.2.2.2.2 k f;refine cover (P:=fun i=>On o k i/\0<(o.bk i).len) (B:=fun i=>(o.bk i).who) o.bkn _ (Zb (o.ld k).st) b.symm (fun i c a=>?_) h.whos j d
 rcases (l i c a.1).2.1 with e|⟨q,g,e,_⟩
 ·have:=a.2;omega
 ·exact⟨q,g,e⟩
theorem ql.room_of {o:Off}(h:ql o){k:Nat}(f:k<o.san){j:Nat}(d:j<(o.ld k).ron):∃ i,i<o.bkn/\(On o k i/\0<(o.bk i).cl)/\(o.bk i).who=((o.ld k).ro j).who:=by
 obtain⟨l,_,b,_⟩:=h.2.2.2.2.2 k f;refine cover (P:=fun i=>On o k i/\0<(o.bk i).cl) (B:=fun i=>(o.bk i).who) o.bkn _ (Zh (o.ld k).ro) b.symm (fun i c a=>?_) h.whos j d
 rcases (l i c a.1).2.2 with e|⟨q,g,e,_⟩
 ·have:=a.2;omega
 ·exact⟨q,g,e⟩
theorem ql.fresh {o:Off}(h:ql o){x:Int}(f:∀ i,i<o.bkn->(o.bk i).who≠x){k:Nat}(d:k<o.san) :
  ¬ Has (ZG (o.ld k).se) (o.ld k).sen x/\¬ Has (Zb (o.ld k).st) (o.ld k).stn x/\¬ Has (Zh (o.ld k).ro) (o.ld k).ron x:=by
 refine⟨?_,?_,?_⟩
 ·rintro⟨j,c,e⟩
  obtain⟨i,b,_,a⟩:=h.seat_of d c;exact f i b (a.trans e)
 ·rintro⟨j,c,e⟩
  obtain⟨i,b,_,a⟩:=h.stay_of d c;exact f i b (a.trans e)
 ·rintro⟨j,c,e⟩
  obtain⟨i,b,_,a⟩:=h.room_of d c;exact f i b (a.trans e)
theorem zcL {F:Nat->Int}{n:Nat}{x:Int}(h:∀ i,i<n->¬ Has F i (F i))(g:Has F n x):∃ r,r<n/\F r=x/\∀ j,j<n->j≠r->F j≠x:=by
 obtain⟨r,b,e⟩:=g;refine⟨r,b,e,fun j d f a=>?_⟩
 by_cases c:j<r
 ·exact h r b ⟨j,c,by rw[a,e]⟩
 ·exact h j d ⟨r,by omega,by rw[e,a]⟩
theorem zV.seats_one {s:Sail}{x:qm}(h:zV s x):∀ i,i<x.sen->¬ Has (ZG x.se) i (ZG x.se i):=fun i a=>(h.2.2.2.2.1 i a).2.1
theorem zV.stays_one {s:Sail}{x:qm}(h:zV s x):∀ i,i<x.stn->¬ Has (Zb x.st) i (Zb x.st i):=fun i a=>(h.1.2.2.1 i a).2.2.2.2
theorem zV.rooms_one {s:Sail}{x:qm}(h:zV s x):∀ i,i<x.ron->¬ Has (Zh x.ro) i (Zh x.ro i):=fun i a=>(h.2.1.2.2.1 i a).1.2.1
theorem ql.here {o:Off}(h:ql o){k i:Nat}(j:k<o.san)(g:i<o.bkn)(l:On o k i) :
  Has (ZG (o.ld k).se) (o.ld k).sen (o.bk i).who/\(0<(o.bk i).len->Has (Zb (o.ld k).st) (o.ld k).stn (o.bk i).who)/\(0<(o.bk i).cl->Has (Zh (o.ld k).ro) (o.ld k).ron (o.bk i).who):=by
 obtain⟨b,d,f⟩:=(h.2.2.2.2.2 k j).1 i g l;refine⟨?_,fun c=>?_,fun c=>?_⟩
 ·obtain⟨q,a,e,_⟩:=b
  exact⟨q,a,e⟩
 ·rcases d with e|⟨q,a,e,_⟩
  ·omega
  ·exact⟨q,a,e⟩
 ·rcases f with e|⟨q,a,e,_⟩
  ·omega
  ·exact⟨q,a,e⟩
section
open Go.RowKit Classical
def ZM (S:Nat->qW)(q:Int):Nat->Int
 | 0=>-1
 | n+1=>if (S n).who=q then (S n).ln else ZM S q n
def Zg (S:Nat->qH)(q:Int):Nat->Int
 | 0=>-1
 | n+1=>if (S n).who=q then (S n).cab else Zg S q n
def zck (l:qm)(b:qi):zbi:=⟨b.name,b.own,b.pe,ZM l.st b.who l.stn,Zg l.ro b.who l.ron⟩
def OnZ (b:qi)(z:Int):Prop:=zaZ b/\HasLeg b z
noncomputable def q9 (l:qm)(S:Nat->qi)(z:Int):Nat->List zbi
 | 0=>[]
 | n+1=>if OnZ (S n) z then q9 l S z n++[zck l (S n)] else q9 l S z n
theorem zaE {l:qm}{S:Nat->qi}{z:Int}{n:Nat}(h:OnZ (S n) z):q9 l S z (n+1)=q9 l S z n++[zck l (S n)]:=by rw[q9,if_pos h]
theorem zam {l:qm}{S:Nat->qi}{z:Int}{n:Nat}(h:¬ OnZ (S n) z):q9 l S z (n+1)=q9 l S z n:=by rw[q9,if_neg h]
theorem zgy (l:qm)(S:Nat->qi)(z:Int)(n:Nat):(q9 l S z n).length<=n:=by
 induction n with
 | zero=>exact Nat.le_refl _
 | succ n ih =>
  by_cases h:OnZ (S n) z
  ·rw[zaE h,List.length_append];simp;omega
  ·rw[zam h];omega
def zbj (l:List zbi)(j:Nat):zbi:=l.getD j zbi.zero
theorem zfu (l:List zbi)(r:zbi):qC (zbj (l++[r])) (l.length+1)=qC (zbj l) l.length++[int i64 r.name,.string r.own,int i64 r.pe,int i64 r.ln,int i64 r.cab]:=by
 rw[Qn];have a:zbj (l++[r]) l.length=r:=by simp[zbj]
 have b:qC (zbj (l++[r])) l.length=qC (zbj l) l.length:=zbz (fun i c=>by unfold zbj;rw[List.getD_eq_getElem?_getD,List.getD_eq_getElem?_getD,List.getElem?_append_left c])
 rw[a,b]
end
theorem Tryz.infoRow:(Tryz.prog.info? 45).map (fun i=>(i.zero,i.size,i.bytes))=some (some (.agg #[int i64 0,.string ⟨#[]⟩,int i64 0,int i64 0,int i64 0]),5,48):=by kernel_rfl
theorem zgW (id:Int):ShortS ⟨id,⟨#[79,115,108,111]⟩,⟨#[75,105,101,108]⟩,5,9,noP,noP,9⟩ 100:=⟨by show(4:Nat)<=100;omega,by show(4:Nat)<=100;omega,by show(0:Nat)<=100;omega,by show(0:Nat)<=100;omega⟩
theorem sailingC (d:Nat)(f:Option Addr)(n c a:Nat)(id:Int)(w:World)(ha:a<=100000000000000)(hn:n<=1048576)(h:CurX w d f n c a) :
  Calls Tryz.prog 95 #[.pointer (some ⟨d,0,none⟩),int i64 id] w fun e w'=>(∃ (x:Sail) (i g:Value),e=.returned (.agg #[int i64 x.id,.string x.fr,.string x.dst,int i64 x.dep,int i64 x.arr,i,g,int i64 x.most])/\Hid (w'.ownsRow w.heap.size 88 2 i x.la.n (zR x.la)/\w'.ownsRow w.heap.size 96 2 g x.ca.n (zR x.ca)/\ShortS x 100))/\CurX w' d f n c (a+10000000000000)/\zA w w' (fun b=>b=d):=by
 obtain⟨p,s,hp,j⟩:=h;exact(sailing_any d f n c p s id w (by omega) hn j).mono fun e w' ⟨h1,h2,h3⟩=>⟨h1,h2.more (by omega),h3⟩
theorem zew (f:Nat)(j:Option Addr)(n c a:Nat)(w:World)(ha:a<=1000000000)(hn:n<=1048576)(d:f<w.heap.size)(p:Hid (CodeLow w j n))(h:CurX w f j n c a) :
  Calls Tryz.prog 62 #[.pointer (some ⟨f,0,none⟩)] w fun e w'=>∃ v N S L C,e=.returned v/\(0<N/\N<=7)/\Hid (zfN w w' f j n c 90000000000000 v N S L C):=by
 have h0:zfN w w f j n c a (.slice none 0 0) 0 (fun _=>⟨0,⟨#[]⟩,⟨#[]⟩,0,0,noP,noP,0⟩) (fun _=>.slice none 0 0) (fun _=>.slice none 0 0):=⟨h,zA.refl _ _,qS.nil _ _ _ _ _,fun i hi=>by omega⟩
 obtain⟨S0,L0,C0,H0⟩:∃ S L C,Hid (zfN w w f j n c a (.slice none 0 0) 0 S L C):=⟨_,_,_,h0⟩;clear h0 h;go_enter Tryz.func62,Tryz.ntmps62;go_wp2_with fail;refine(pickC f j n c a 5 _ (by omega) (by omega) (by omega) H0.out.cur).mono ?_
 rintro e w1 ⟨⟨n0,rfl,f8⟩,b0,c0⟩;have H1:Hid _:=H0.out.on d b0 c0;clear H0 b0 c0;have d7:IntKind.i64.wrap (1+(n0:Int))=((1+n0:Nat):Int):=by rw[IntKind.wrap_i64];omega
 go_wp2_with fail;refine(oneC f j n c (a+1) 24 _ (by omega) (by omega) (by omega) H1.out.cur).mono ?_
 rintro e w2 ⟨⟨b,rfl⟩,b5,c1⟩;have H2:Hid _:=H1.out.on d b5 c1;clear H1 b5 c1;go_upto_if 11 with fail;go_cut [5] (fun vn F=>∃ m:Nat,vn=int i64 m/\(0<m/\m<=7)/\Hid (zfN w F f j n c (a+3) (.slice none 0 0) 0 S0 L0 C0))
 case first =>
  cases b with
  | true =>
   go_wp2_with fail;refine(pickC f j n c (a+1+1) 2 _ (by omega) (by omega) (by omega) H2.out.cur).mono ?_
   rintro e w3 ⟨⟨n1,rfl,f9⟩,I,K⟩;have R:Hid _:=H2.out.on d I K;have g1:IntKind.i64.wrap (6+(n1:Int))=((6+n1:Nat):Int):=by rw[IntKind.wrap_i64];omega
   clear H2 I K;go_wp2;go_meet;exact⟨6+n1,rfl,by omega,R.out⟩
  | false =>
   go_wp2;go_meet;exact⟨1+n0,rfl,by omega,H2.out.more (by omega)⟩
 case rest =>
 obtain⟨m0,rfl,e9,R⟩:=hcut;clear H2 d7;obtain⟨A0,a7⟩:∃ A0,A0=a+3:=⟨_,rfl⟩;rw[← a7] at R;have e5:A0<=2000000000:=by omega
 clear a7;go_wp2_with fail;go_loopw [3,4,5] (fun vl vi vn wr=>∃ (k N:Nat) (c6:Int) (S:Nat->Sail) (L C:Nat->Value),vn=int i64 k/\vi=int i64 c6/\(0<N+k/\N+k<=7)/\Hid (zfN w wr f j n c (A0+N*10000000000100) vl N S L C)) (fun _ _ vn _=>(intOf vn).toNat)
 case atStart=>exact⟨m0,0,0,S0,L0,C0,rfl,rfl,by omega,R.out.more (by omega)⟩
 case round =>
  clear R;clear S0 L0 C0;obtain⟨k,N,c6,S,L,C,rfl,rfl,e8,HR⟩:=hrel;obtain⟨A,hA⟩:∃ A,A=A0+N*10000000000100:=⟨_,rfl⟩;rw[← hA] at HR;have d0:A<=80000000000000:=by omega
  obtain⟨lo,W,rfl,_⟩:=zr HR.out.lie.row
  by_cases hk0:0<k
  ·have dk:decide ((0:Int)<(k:Int))=true:=by simp;omega
   go_wp2_with fail;refine(pickC f j n c A 3 _ (by omega) (by omega) (by omega) HR.out.cur).mono ?_
   rintro e w3 ⟨⟨r3,rfl,g0⟩,I,K⟩;have R:Hid _:=HR.out.on d I K;clear HR I K;go_wp2_with fail;refine(sailingC f j n c (A+1) _ _ (by omega) hn R.out.cur).mono ?_
   rintro e X ⟨⟨x,vl,vc,rfl,T⟩,b6,c2⟩;obtain⟨la,E,rfl,_⟩:=zr T.out.1;obtain⟨ca,D,rfl,_⟩:=zr T.out.2.1;have H4:Hid _:=R.out.on d b6 c2;have Q:=R.out.kept.size;have V:Hid (X.ownsRow w.heap.size 88 2 (.slice la x.la.n E) x.la.n (zR x.la)/\X.ownsRow w.heap.size 96 2 (.slice ca x.ca.n D) x.ca.n (zR x.ca)/\ShortS x 100):=⟨zC T.out.1 Q,zC T.out.2.1 Q,T.out.2.2⟩;clear R b6 c2 T Q;have a1:=heap_alloc_new X (.cells #[int i64 x.id,.string x.fr,.string x.dst,int i64 x.dep,int i64 x.arr,.slice la x.la.n E,.slice ca x.ca.n D,int i64 x.most] 33);have P:Below X.heap.size X (X.alloc (.cells #[int i64 x.id,.string x.fr,.string x.dst,int i64 x.dep,int i64 x.arr,.slice la x.la.n E,.slice ca x.ca.n D,int i64 x.most] 33)):=zl bZ _;go_upto_region 10 with fail;generalize X.alloc (.cells #[int i64 x.id,.string x.fr,.string x.dst,int i64 x.dep,int i64 x.arr,.slice la x.la.n E,.slice ca x.ca.n D,int i64 x.most] 33)=w5 at a1 P ⊢;have G:Hid (zau w w5 X.heap.size f j n c (A+1+10000000000000) (.slice lo N W) N S L C x (.slice la x.la.n E) (.slice ca x.ca.n D)):=⟨H4.out.below P,H4.out.kept.size,a1,fun g hg=>by have:=(H4.out.lie.row.lt g hg).2;omega,zp P V.out.1,zp P V.out.2.1,V.out.2.2⟩
   clear H4 V a1 P;generalize X.heap.size=xb at G ⊢;obtain⟨B,hB⟩:∃ B,B=A+1+10000000000000:=⟨_,rfl⟩;rw[← hB] at G;have e6:B<=92000000000000:=by omega
   have e7:B=A0+N*10000000000100+10000000000001:=by omega
   clear d0 hA hB;obtain⟨m0,m1,m2,m3,m4,m5,m6,m7⟩:=ce8 G.out.box;go_cut [34] (fun v F=>∃ b:Bool,v=.bool b/\Hid (zau w F xb f j n c (B+1) (.slice lo N W) N S L C x (.slice la x.la.n E) (.slice ca x.ca.n D)))
   case first =>
    go_wp2_with fail;refine(Zo _ _ _ _ _ _ _ _ _ _ _ _ x.la x.ca _ rfl rfl (by have:=G.out.sx.1;omega) (by have:=G.out.sx.2.1;omega) (by have:=G.out.sx.2.2.1;omega) (by have:=G.out.sx.2.2.2;omega) (pairs_of_own G.out.la) (pairs_of_own G.out.ca)).mono ?_
    rintro e w6 ⟨⟨g6,rfl,_⟩,a8⟩;have U:Hid _:=G.out.below a8;clear G a8 m0 m1 m2 m3 m4 m5 m6 m7
    cases g6 with
    | true =>
     go_wp2;go_meet;exact⟨_,rfl,U.out.more (by omega)⟩
    | false =>
     go_wp2_with fail;refine(oneC f j n c B 6 _ (by omega) (by omega) (by omega) U.out.l.cur).mono ?_
     rintro e w7 ⟨⟨b7,rfl⟩,J,O⟩;have Z:Hid _:=U.out.on d J O;clear U J O;go_wp2;go_meet;exact⟨_,rfl,Z.out⟩
   case rest =>
   obtain⟨b8,rfl,H⟩:=hcut;clear G m0 m1 m2 m3 m4 m5 m6 m7;go_upto_if 34 with fail;go_cut [] (fun F=>∃ y Y wc,Hid (zau w F xb f j n c (B+1) (.slice lo N W) N S L C y Y wc))
   case first =>
    cases b8 with
    | true =>
     obtain⟨m0,m1,m2,m3,m4,m5,m6,m7⟩:=ce8 H.out.box;obtain⟨f0,f1,f2,f3,f4,f5,f6,f7⟩:=fe8 H.out.box;go_wp2;go_meet;exact⟨⟨_,⟨#[79,115,108,111]⟩,⟨#[75,105,101,108]⟩,5,9,noP,noP,9⟩,_,_,H.out.whole d p.out rfl (show World.ownsRow _ _ _ 2 _ 0 [] from World.ownsRow_nil _ _ _ _) (show World.ownsRow _ _ _ 2 _ 0 [] from World.ownsRow_nil _ _ _ _) (zgW _)⟩
    | false =>
     go_wp2;go_meet;exact⟨_,_,_,H.out⟩
   case rest =>
   obtain⟨y,Y,e1,HY⟩:=hcut;clear H;go_upto_region 12 with fail;go_cut [43] (fun v F=>∃ b:Bool,v=.bool b/\(b=true->0<N)/\Hid (zau w F xb f j n c (B+2) (.slice lo N W) N S L C y Y e1))
   case first =>
    by_cases hN0:N=0
    ·have c8:decide ((0:Int)<(N:Int))=false:=by simp;omega
     go_wp2;go_meet;exact⟨false,rfl,fun e=>(by cases e),HY.out.more (by omega)⟩
    ·have c8:decide ((0:Int)<(N:Int))=true:=by simp;omega
     go_wp2_with fail;refine(oneC f j n c (B+1) 2 _ (by omega) (by omega) (by omega) HY.out.l.cur).mono ?_
     rintro e w7 ⟨⟨b7,rfl⟩,J,O⟩;have Z:Hid _:=HY.out.on d J O;clear HY J O;go_wp2;go_meet;exact⟨_,rfl,fun _=>by omega,Z.out⟩
   case rest =>
   obtain⟨b9,rfl,a0,l⟩:=hcut;clear HY;go_upto_if 43 with fail;go_cut [] (fun F=>∃ y Y wc,Hid (zau w F xb f j n c (B+2) (.slice lo N W) N S L C y Y wc))
   case first =>
    cases b9 with
    | false =>
     go_wp2;go_meet;exact⟨_,_,_,l.out⟩
    | true =>
     obtain⟨M,rfl⟩:∃ M,N=M+1:=⟨N - 1,by have:=a0 rfl;omega⟩
     obtain⟨g,rfl,_,_⟩:=own_addr l.out.l.lie.row (by omega)
     have g2:IntKind.i64.wrap ((((M+1:Nat)):Int) - 1)=(M:Int):=by rw[IntKind.wrap_i64];omega
     have e2:IntKind.i64.wrap (M:Int)=(M:Int):=by rw[IntKind.wrap_i64];omega
     have e3:(0:Int)<=(M:Int):=by omega
     have e4:(M:Int)<(M:Int)+1:=by omega
     have d6:=l.out.l.short M (by omega)
     clear a0;have m1:=za l.out.box 1 _ rfl;have f1:=ze l.out.box 1;have l2:=(zx l.out.l.lie.row (M*8+2) (by omega) rfl).trans (congrArg some (sailCell_2 S L C M))
     have q:Hid _:=l.out.fr d p.out (S M).dst d6.2.1;go_upto_region 14 with fail;generalize World.setCell _ _ _=v1 at q ⊢;obtain⟨y1,c5⟩:∃ z,z={ y with fr:=(S M).dst }:=⟨_,rfl⟩;rw[← c5] at q;clear l c5 m1 f1 l2;have m3:=za q.out.box 3 _ rfl;have f3:=ze q.out.box 3;have l4:=(zx q.out.l.lie.row (M*8+4) (by omega) rfl).trans (congrArg some (sailCell_4 S L C M))
     go_cut [] (fun F=>∃ y Y wc,Hid (zau w F xb f j n c (B+2) (.slice (some ⟨g,0,none⟩) (M+1) W) (M+1) S L C y Y wc))
     case first =>
      go_region
      all_goals
       go_wp2;go_meet
       first|exact⟨_,_,_,q.out.dep d p.out _⟩|exact⟨_,_,_,(q.out.dep d p.out _).below bZ.drew⟩
     case rest =>
     obtain⟨y2,g7,g3,s⟩:=hcut;clear q m3 f3 l4;have m4:=za s.out.box 4 _ rfl;have f4:=ze s.out.box 4;have l4:=(zx s.out.l.lie.row (M*8+4) (by omega) rfl).trans (congrArg some (sailCell_4 S L C M))
     go_upto_region 15 with fail;go_cut [] (fun F=>∃ y Y wc,Hid (zau w F xb f j n c (B+2) (.slice (some ⟨g,0,none⟩) (M+1) W) (M+1) S L C y Y wc))
     case first =>
      go_region
      all_goals
       go_wp2;go_meet
       first|exact⟨_,_,_,s.out.arr d p.out _⟩|exact⟨_,_,_,(s.out.arr d p.out _).below bZ.drew⟩
     case rest =>
     obtain⟨y3,g8,g4,t⟩:=hcut;clear s m4 f4 l4;have m1:=za t.out.box 1 _ rfl;have m2:=za t.out.box 2 _ rfl;have f1:=ze t.out.box 1;have f2:=ze t.out.box 2;have c7:Hid _:=t.out.to d p.out ⟨#[90,117,103]⟩ (by show(3:Nat)<=100;omega)
     go_wp2
     all_goals
      go_meet
      first|exact⟨_,_,_,c7.out⟩|exact⟨_,_,_,t.out⟩
   case rest =>
   obtain⟨o,g9,g5,r⟩:=hcut;clear l a0;obtain⟨a5,a6,rfl,_⟩:=zr r.out.la;obtain⟨a2,a3,rfl,_⟩:=zr r.out.ca;obtain⟨m0,m1,m2,m3,m4,m5,m6,m7⟩:=ce8 r.out.box;obtain⟨j0,ji,d8,d9,e0⟩:=info_parts Tryz.infoSailing;have T:Hid (zau w (wc.alloc (.cells #[int i64 o.id,.string o.fr,.string o.dst,int i64 o.dep,int i64 o.arr,.slice a5 o.la.n a6,.slice a2 o.ca.n a3,int i64 o.most] 33)) xb f j n c (B+2) (.slice lo N W) N S L C o (.slice a5 o.la.n a6) (.slice a2 o.ca.n a3)):=r.out.below (zl bZ _);have c4:=T.out.l.kept.size;clear r;go_wp2_with (first|(at_builtin;refine zu _ (by rfl) (.tmp 80) (.tmp 82) 23 (by rfl) w.heap.size 33 j0 (.agg #[int i64 0,.string ⟨#[]⟩,.string ⟨#[]⟩,int i64 0,int i64 0,.slice none 0 0,.slice none 0 0,int i64 0]) 8 112 Tryz.underlying23 ji d8 d9 e0 rfl (by decide) _ N _ (by rfl) T.out.l.lie.row (some ⟨wc.heap.size,0,none⟩) 1 1 [int i64 o.id,.string o.fr,.string o.dst,int i64 o.dep,int i64 o.arr,.slice a5 o.la.n a6,.slice a2 o.ca.n a3,int i64 o.most] (by rfl) (fun h=>by cases h) (by rfl) (fun ad h=>by cases h;exact World.news_of_block (heap_alloc_new wc _)) (by intro u hu;simp only[List.mem_cons,List.not_mem_nil,or_false] at hu;rcases hu with rfl|rfl|rfl|rfl|rfl|rfl|rfl|rfl <;> rfl) (by unfold maxLen;omega) (by omega) c4 ?_;intro v9 w9 c3 d5;obtain⟨a9,c9,rfl,_⟩:=zr c3))
   have HN:Hid _:=T.out.snoc d p.out d5 c3;go_roundw
   case rel=>exact⟨k - 1,N+1,_,_,_,_,by go_num,rfl,by omega,HN.out.more (by omega)⟩
   case measure=>simp[intOf];omega
  ·obtain rfl:k=0:=by omega
   go_wp2;exact bodyPost_ret (v:=.slice lo N W) (by simp[results,Tryz.results62,go_sem]) rfl ⟨_,N,S,L,C,rfl,by omega,HR.out.more (by omega)⟩
theorem zbF (q:Option Addr)(n c:Nat)(p:zP)(w:World)(hl:p.n=n)(hn:n<=1048576)(x:zT w q p) :
  Calls Tryz.prog 72 #[.slice q n c] w fun e w'=>SaysIf (Qj p 4 1 5000 100 500) e/\Below w.heap.size w w':=by
 have f:=hI hl;clear hl
 by_cases h0:n<=4
 ·have r:decide (4<n)=false:=by simp;omega
  go_enter Tryz.func72,Tryz.ntmps72;go_wp2;go_loopw [4,10] (fun _ i wr=>∃ k:Nat,k<=n/\i=int i64 k/\(∀ j,j<k->In (p.A j) 1 5000/\In (p.B j) 100 500)/\Below w.heap.size w wr) (fun _ i _=>n - (intOf i).toNat)
  case atStart=>exact⟨0,Nat.zero_le _,rfl,fun j l=>by omega,bZ⟩
  case round =>
   obtain⟨k,hk,rfl,d,a⟩:=hrel;have o:=hI d;clear d r
   by_cases hlt:k<n
   ·obtain⟨b,off,rfl,m,s⟩:=x k (by rw[f.out];omega)
    have t:=World.block_lt_of_cell? w _ m;have c1:=(a.cell (p:=⟨b,off+k*2,none⟩) t).trans m;have c2:=(a.cell (p:=⟨b,off+k*2+1,none⟩) t).trans s;clear m s
    by_cases g1:In (p.A k) 1 5000
    ·have u:decide (In (p.A k) 1 5000)=true:=decide_eq_true g1
     by_cases g2:In (p.B k) 100 500
     ·have v:decide (In (p.B k) 100 500)=true:=decide_eq_true g2
      have g:Hid (In (p.A k) 1 5000/\In (p.B k) 100 500):=⟨g1,g2⟩;clear g1 g2;go_wp2_with (first|(go_at_call 74;refine sC (zM _ _ _ _) ?_))
      go_roundw
      case rel=>exact⟨k+1,by omega,by go_num,fun j l=>by
       by_cases e:j=k
       ·subst e;exact g.out
       ·exact o.out j (by omega),zl a _⟩
      case measure=>simp[intOf];omega
     ·have v:decide (In (p.B k) 100 500)=false:=decide_eq_false g2
      have g:=hI g2;clear g1 g2;go_wp2_with (first|(go_at_call 74;refine sC (zM _ _ _ _) ?_))
      go_ret;exact⟨zk (fun h=>g.out (h.2 k (by rw[f.out];exact hlt)).2),zl a _⟩
    ·have u:decide (In (p.A k) 1 5000)=false:=decide_eq_false g1
     have g:=hI g1;clear g1;go_wp2_with (first|(go_at_call 74;refine sC (zM _ _ _ _) ?_))
     go_ret;exact⟨zk (fun h=>g.out (h.2 k (by rw[f.out];exact hlt)).1),zl a _⟩
   ·obtain rfl:k=n:=by omega
    go_wp2;go_ret;exact⟨zI ⟨by rw[f.out];exact h0,fun j l=>o.out j (by rw[f.out] at l;exact l)⟩,a⟩
 ·have r:decide (4<n)=true:=by simp;omega
  go_enter Tryz.func72,Tryz.ntmps72;go_wp2;go_ret;exact⟨zk (fun h=>by have:=h.1;rw[f.out] at this;exact h0 this),bZ⟩
theorem Qw (x:Int)(w:World) :
  Calls Tryz.prog 102 #[int i64 x] w fun e w'=>e=.returned (.bool (decide (In x 1 3)))/\w'=w:=by
 go_enter Tryz.func102,Tryz.ntmps102;go_wp2_with (first|(go_at_call 74;refine sC (zM _ _ _ _) ?_))
 go_ret;exact⟨rfl,rfl⟩
theorem zaF (x:Int)(w:World) :
  Calls Tryz.prog 103 #[int i64 x] w fun e w'=>e=.returned (.bool (decide (In x 1 4)))/\w'=w:=by
 go_enter Tryz.func103,Tryz.ntmps103;go_wp2_with (first|(go_at_call 74;refine sC (zM _ _ _ _) ?_))
 go_ret;exact⟨rfl,rfl⟩
theorem zaT (q:Option Addr)(n c:Nat)(p:zP)(w:World)(hl:p.n=n)(hn:n<=1048576)(x:zT w q p) :
  Calls Tryz.prog 73 #[.slice q n c] w fun e w'=>SaysIf (Qj p 6 1 3 1 4) e/\Below w.heap.size w w':=by
 have f:=hI hl;clear hl
 by_cases h0:n<=6
 ·have r:decide (6<n)=false:=by simp;omega
  go_enter Tryz.func73,Tryz.ntmps73;go_wp2;go_loopw [4,10] (fun _ i wr=>∃ k:Nat,k<=n/\i=int i64 k/\(∀ j,j<k->In (p.A j) 1 3/\In (p.B j) 1 4)/\Below w.heap.size w wr) (fun _ i _=>n - (intOf i).toNat)
  case atStart=>exact⟨0,Nat.zero_le _,rfl,fun j l=>by omega,bZ⟩
  case round =>
   obtain⟨k,hk,rfl,d,a⟩:=hrel;have o:=hI d;clear d r
   by_cases hlt:k<n
   ·obtain⟨b,off,rfl,m,s⟩:=x k (by rw[f.out];omega)
    have t:=World.block_lt_of_cell? w _ m;have c1:=(a.cell (p:=⟨b,off+k*2,none⟩) t).trans m;have c2:=(a.cell (p:=⟨b,off+k*2+1,none⟩) t).trans s;clear m s
    by_cases g1:In (p.A k) 1 3
    ·have u:decide (In (p.A k) 1 3)=true:=decide_eq_true g1
     by_cases g2:In (p.B k) 1 4
     ·have v:decide (In (p.B k) 1 4)=true:=decide_eq_true g2
      have g:Hid (In (p.A k) 1 3/\In (p.B k) 1 4):=⟨g1,g2⟩;clear g1 g2;go_wp2_with (first|(go_at_call 102;refine sC (Qw _ _) ?_)|(go_at_call 103;refine sC (zaF _ _) ?_))
      go_roundw
      case rel=>exact⟨k+1,by omega,by go_num,fun j l=>by
       by_cases e:j=k
       ·subst e;exact g.out
       ·exact o.out j (by omega),zl a _⟩
      case measure=>simp[intOf];omega
     ·have v:decide (In (p.B k) 1 4)=false:=decide_eq_false g2
      have g:=hI g2;clear g1 g2;go_wp2_with (first|(go_at_call 102;refine sC (Qw _ _) ?_)|(go_at_call 103;refine sC (zaF _ _) ?_))
      go_ret;exact⟨zk (fun h=>g.out (h.2 k (by rw[f.out];exact hlt)).2),zl a _⟩
    ·have u:decide (In (p.A k) 1 3)=false:=decide_eq_false g1
     have g:=hI g1;clear g1;go_wp2_with (first|(go_at_call 102;refine sC (Qw _ _) ?_)|(go_at_call 103;refine sC (zaF _ _) ?_))
     go_ret;exact⟨zk (fun h=>g.out (h.2 k (by rw[f.out];exact hlt)).1),zl a _⟩
   ·obtain rfl:k=n:=by omega
    go_wp2;go_ret;exact⟨zI ⟨by rw[f.out];exact h0,fun j l=>o.out j (by rw[f.out] at l;exact l)⟩,a⟩
 ·have r:decide (6<n)=true:=by simp;omega
  go_enter Tryz.func73,Tryz.ntmps73;go_wp2;go_ret;exact⟨zk (fun h=>by have:=h.1;rw[f.out] at this;exact h0 this),bZ⟩
theorem zbf (pe len hei cl:Int)(all:Bool)(be:Int)(w:World) :
  Calls Tryz.prog 33 #[.agg #[int i64 pe,int i64 len,int i64 hei,int i64 cl,.bool all,int i64 be]] w fun e w'=>e=.returned (.bool (decide (¬ (len=0/\hei=0))))/\Below w.heap.size w w':=by
 obtain⟨c,d⟩:∃ c,c=decide (¬ (len=0/\hei=0)):=⟨_,rfl⟩;rw[← d];have a:=hI d;clear d
 by_cases h1:len=0
 ·subst h1
  by_cases h2:hei=0
  ·subst h2
   go_enter Tryz.func33,Tryz.ntmps33;go_wp2;go_ret;exact⟨by rw[a.out];rfl,zl bZ _⟩
  ·have e2:(hei != 0)=true:=by simpa using h2
   have b:Hid (c=true):=by rw[a.out];exact decide_eq_true (fun h=>h2 h.2)
   clear h2;go_enter Tryz.func33,Tryz.ntmps33;go_wp2;go_ret;exact⟨by rw[b.out];rfl,zl bZ _⟩
 ·have e1:(len != 0)=true:=by simpa using h1
  have b:Hid (c=true):=by rw[a.out];exact decide_eq_true (fun h=>h1 h.1)
  clear h1;go_enter Tryz.func33,Tryz.ntmps33;go_wp2;go_ret;exact⟨by rw[b.out];rfl,zl bZ _⟩
theorem ZZ (pe len hei cl:Int)(all:Bool)(be:Int)(w:World) :
  Calls Tryz.prog 34 #[.agg #[int i64 pe,int i64 len,int i64 hei,int i64 cl,.bool all,int i64 be]] w fun e w'=>e=.returned (.bool (decide (¬ (cl=0/\all=false/\be=0))))/\Below w.heap.size w w':=by
 obtain⟨c,d⟩:∃ c,c=decide (¬ (cl=0/\all=false/\be=0)):=⟨_,rfl⟩;rw[← d];have b:=hI d;clear d
 by_cases h1:cl=0
 ·subst h1
  cases all with
  | true =>
   have a:Hid (c=true):=by rw[b.out];exact decide_eq_true (fun h=>by cases h.2.1)
   go_enter Tryz.func34,Tryz.ntmps34;go_wp2;go_ret;exact⟨by rw[a.out];rfl,zl bZ _⟩
  | false =>
   by_cases h2:be=0
   ·subst h2
    go_enter Tryz.func34,Tryz.ntmps34;go_wp2;go_ret;exact⟨by rw[b.out];rfl,zl bZ _⟩
   ·have e2:(be != 0)=true:=by simpa using h2
    have a:Hid (c=true):=by rw[b.out];exact decide_eq_true (fun h=>h2 h.2.2)
    clear h2;go_enter Tryz.func34,Tryz.ntmps34;go_wp2;go_ret;exact⟨by rw[a.out];rfl,zl bZ _⟩
 ·have e1:(cl != 0)=true:=by simpa using h1
  have a:Hid (c=true):=by rw[b.out];exact decide_eq_true (fun h=>h1 h.1)
  clear h1;go_enter Tryz.func34,Tryz.ntmps34;go_wp2;go_ret;exact⟨by rw[a.out];rfl,zl bZ _⟩
theorem zaN (x y:Int)(w:World) :
  Calls Tryz.prog 110 #[int i64 x,int i64 y] w fun e w'=>e=.returned (.bool (decide (In x 1 2000/\In y 1 500)))/\w'=w:=by
 obtain⟨c,f⟩:∃ c,c=decide (In x 1 2000/\In y 1 500):=⟨_,rfl⟩;rw[← f];have d:=hI f;clear f
 by_cases h1:In x 1 2000
 ·have g:decide (In x 1 2000)=true:=decide_eq_true h1
  have a:=hI h1;clear h1
  by_cases h2:In y 1 500
  ·have i:decide (In y 1 500)=true:=decide_eq_true h2
   have b:=hI h2;clear h2;go_enter Tryz.func110,Tryz.ntmps110;go_wp2_with (first|(go_at_call 74;refine sC (zM _ _ _ _) ?_))
   go_ret;exact⟨by rw[d.out,decide_eq_true ⟨a.out,b.out⟩];rfl,rfl⟩
  ·have i:decide (In y 1 500)=false:=decide_eq_false h2
   have b:=hI h2;clear h2;go_enter Tryz.func110,Tryz.ntmps110;go_wp2_with (first|(go_at_call 74;refine sC (zM _ _ _ _) ?_))
   go_ret;exact⟨by rw[d.out,decide_eq_false (fun h=>b.out h.2)];rfl,rfl⟩
 ·have g:decide (In x 1 2000)=false:=decide_eq_false h1
  have a:=hI h1;clear h1;go_enter Tryz.func110,Tryz.ntmps110;go_wp2_with (first|(go_at_call 74;refine sC (zM _ _ _ _) ?_))
  go_ret;exact⟨by rw[d.out,decide_eq_false (fun h=>a.out h.1)];rfl,rfl⟩
theorem wish_is (cl:Int)(all:Bool)(be:Int)(w:World) :
  Calls Tryz.prog 111 #[int i64 cl,.bool all,int i64 be] w fun e w'=>e=.returned (.bool (decide (zdU cl all be)))/\w'=w:=by
 obtain⟨c,f⟩:∃ c,c=decide (zdU cl all be):=⟨_,rfl⟩;rw[← f];have a:=hI f;clear f
 by_cases h1:In cl 1 3
 ·have i:decide (In cl 1 3)=true:=decide_eq_true h1
  have b:=hI h1;clear h1
  cases all with
  | true =>
   by_cases h2:be=0
   ·subst h2
    go_enter Tryz.func111,Tryz.ntmps111;go_wp2_with (first|(go_at_call 102;refine sC (Qw _ _) ?_))
    go_ret;exact⟨by rw[a.out,decide_eq_true ⟨b.out,.inl ⟨rfl,rfl⟩⟩];rfl,rfl⟩
   ·have g:(be == 0)=false:=by simpa using h2
    have d:=hI h2;clear h2;go_enter Tryz.func111,Tryz.ntmps111;go_wp2_with (first|(go_at_call 102;refine sC (Qw _ _) ?_))
    go_ret;exact⟨by rw[a.out,decide_eq_false (fun h=>by rcases h.2 with h|h;exact d.out h.2;cases h.1)];rfl,rfl⟩
  | false =>
   by_cases h2:In be 1 4
   ·have g:decide (In be 1 4)=true:=decide_eq_true h2
    have d:=hI h2;clear h2;go_enter Tryz.func111,Tryz.ntmps111;go_wp2_with (first|(go_at_call 102;refine sC (Qw _ _) ?_)|(go_at_call 103;refine sC (zaF _ _) ?_))
    go_ret;exact⟨by rw[a.out,decide_eq_true ⟨b.out,.inr ⟨rfl,d.out⟩⟩];rfl,rfl⟩
   ·have g:decide (In be 1 4)=false:=decide_eq_false h2
    have d:=hI h2;clear h2;go_enter Tryz.func111,Tryz.ntmps111;go_wp2_with (first|(go_at_call 102;refine sC (Qw _ _) ?_)|(go_at_call 103;refine sC (zaF _ _) ?_))
    go_ret;exact⟨by rw[a.out,decide_eq_false (fun h=>by rcases h.2 with h|h;cases h.1;exact d.out h.2)];rfl,rfl⟩
 ·have i:decide (In cl 1 3)=false:=decide_eq_false h1
  have b:=hI h1;clear h1
  cases all with
  | true =>
   go_enter Tryz.func111,Tryz.ntmps111;go_wp2_with (first|(go_at_call 102;refine sC (Qw _ _) ?_))
   go_ret;exact⟨by rw[a.out,decide_eq_false (fun h=>b.out h.1)];rfl,rfl⟩
  | false =>
   go_enter Tryz.func111,Tryz.ntmps111;go_wp2_with (first|(go_at_call 102;refine sC (Qw _ _) ?_))
   go_ret;exact⟨by rw[a.out,decide_eq_false (fun h=>b.out h.1)];rfl,rfl⟩
theorem ZJ (x:Int)(w:World) :
  Calls Tryz.prog 77 #[int i64 x] w fun e w'=>e=.returned (.bool (decide (In x 1 9999)))/\w'=w:=by
 go_enter Tryz.func77,Tryz.ntmps77;go_wp2_with (first|(go_at_call 74;refine(zM _ _ _ _).mono ?_;rintro e w' ⟨rfl,rfl⟩))
 go_ret;exact⟨rfl,rfl⟩
theorem zfF (g:Option Addr)(n c:Nat)(G:Nat->Int)(x:Int)(w:World)(hn:n<=1048576)(p:zX w g n G) :
  Calls Tryz.prog 86 #[.slice g n c,int i64 x] w fun e w'=>e=.returned (int i64 (qL G x n))/\w'=w:=by
 go_enter Tryz.func86,Tryz.ntmps86;go_wp2;go_loopw [5,8] (fun _ i wr=>∃ k:Nat,k<=n/\i=int i64 k/\(∀ j,j<k->G j≠x)/\wr=w) (fun _ i _=>n - (intOf i).toNat)
 case atStart=>exact⟨0,Nat.zero_le _,rfl,fun j o=>by omega,rfl⟩
 case round =>
  obtain⟨k,hk,rfl,a,rfl⟩:=hrel;have d:=hI a;clear a
  by_cases hlt2:k<n
  ·obtain⟨b,off,rfl,h0⟩:=p k hlt2
   by_cases he:G k=x
   ·have m:(x == G k)=true:=by rw[he];simp
    have f:Hid (qL G x n=k):=by
     have:ZC G x n=k:=zbJ hlt2 he d.out;unfold qL Hid;rw[this,if_pos hlt2]
    clear he;go_wp2;go_ret;exact⟨by rw[f.out];rfl,rfl⟩
   ·have m:(x == G k)=false:=by simpa using fun h=>he h.symm
    have l:=hI he;clear he;go_wp2;go_roundw
    case rel=>exact⟨k+1,by omega,by go_num,fun j o=>by
     by_cases e:j=k
     ·subst e;exact l.out
     ·exact d.out j (by omega),trivial⟩
    case measure=>simp[intOf];omega
  ·obtain rfl:k=n:=by omega
   have f:=hI (QL (zaB d.out));go_wp2;go_ret;exact⟨by rw[f.out];rfl,rfl⟩
theorem zhc (d:Option Addr)(n c:Nat)(G:Nat->Int)(x:Int)(w:World)(hn:n<=1048576)(j:zX w d n G) :
  Calls Tryz.prog 41 #[.slice d n c,int i64 x] w fun e w'=>SaysIf (Has G n x) e/\w'=w:=by
 obtain⟨r,g⟩:∃ r,r=qL G x n:=⟨_,rfl⟩;have b:=hI g;clear g;go_enter Tryz.func41,Tryz.ntmps41;go_wp2_with fail;refine(zfF d n c G x _ hn j).mono ?_;rw[← b.out];rintro e w1 ⟨rfl,f⟩;have f:=f.symm;subst f
 by_cases h:Has G n x
 ·have i:decide (0<=r)=true:=by rw[b.out];unfold qL;rw[if_pos ((zaA _ _ _).1 h)];simp
  have a:=hI h;clear h;go_wp2;go_ret;exact⟨zI a.out,rfl⟩
 ·have i:decide (0<=r)=false:=by rw[b.out,QL h];rfl
  have a:=hI h;clear h;go_wp2;go_ret;exact⟨zk a.out,rfl⟩
theorem zhd (b:qi)(c:Option Addr)(d:Nat)(w:World) :
  Calls Tryz.prog 40 #[.agg #[int i64 b.name,int i64 b.who,.string b.own,.slice c b.lgn d,int i64 b.pe,int i64 b.len,int i64 b.hei,int i64 b.cl,.bool b.all,int i64 b.be,int i64 b.state,int i64 b.unt,int i64 b.price]] w fun e w'=>SaysIf (zaZ b) e/\Below w.heap.size w w':=by
 by_cases s1:b.state=1
 ·have f:(b.state == 1)=true:=by simpa using s1
  have a:Hid (zaZ b):=.inl s1;clear s1;go_enter Tryz.func40,Tryz.ntmps40;go_wp2;go_ret;exact⟨zI a.out,zl bZ _⟩
 ·have f:(b.state == 1)=false:=by simpa using s1
  by_cases s2:b.state=2
  ·have g:(b.state == 2)=true:=by simpa using s2
   have a:Hid (zaZ b):=.inr s2;clear s1 s2;go_enter Tryz.func40,Tryz.ntmps40;go_wp2;go_ret;exact⟨zI a.out,zl bZ _⟩
  ·have g:(b.state == 2)=false:=by simpa using s2
   have a:Hid (¬ zaZ b):=by intro h;rcases h with h|h;exact s1 h;exact s2 h
   clear s1 s2;go_enter Tryz.func40,Tryz.ntmps40;go_wp2;go_ret;exact⟨zk a.out,zl bZ _⟩
end Go.Proofs.YtgmdnkngnhkgbaaGreat
