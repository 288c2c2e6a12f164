import Derived.Test.YtpmnbjkjpnclaaaGreatDoorQQ
import Derived.Test.YtpmnbjkjpnclaaaGreatDoorQP
set_option maxRecDepth 100000
set_option maxHeartbeats 8000000
open Go renaming Addr.mk->Q,Value.slice->Z,Value.string->Y,Value.int->J,Obj.cells->N,IntKind.i64->I,World->M,Value->ZC,Ending.returned->ZF
open Option renaming none->U,some->T
open Bool renaming false->ZA
namespace Go.Proofs.YtpmnbjkjpnclaaaGreatDoor.Vp
open Tryz RowKit Ca
variable {w W V W':M}{b c g n X q j K i ZM o:Nat}{r r':DR}{D R:List DR}{a:Option Addr}{x:Deed}{f:Nat->Deed}{u:ZC}{t:ByteArray}
def Som (r:DR):Prop:=(∃g c,r.2.1=Z (T (Q g 0 U)) r.1.f c)/\∃g c,r.2.2=Z (T (Q g 0 U)) r.1.b c
theorem CR (a:Option Addr)(n cap:Nat)(f:Nat->Deed)(w:M)(hn:(n:Int)<=1048576)(hf:SlDeed w a n f)(ZO:∀i,i<n->cV (f i)):Calls Tryz.prog 64 #[.agg #[Z a n cap]] w λe w'=>∃a c R,e=ZF (.agg #[Z a R.length c])/\DRow w' (w.heap.size+3) (Z a R.length c) R/\R.map (·.1)=(List.range n).map f/\(∀r∈R,Som r)/\Below w.heap.size w w':=by
 have HF:=ae hf;have HM:=ae ZO;clear hf ZO;obtain⟨DQ,hi,mv,ro,n9⟩:=L8 iy;obtain⟨DH,hj,qr,th,At⟩:=L8 fk;obtain⟨W0,G⟩:∃W:M,((w.alloc (N #[Z a n cap] 37)).alloc (N #[Z U 0 0] 37)).alloc (N #[Z U 0 0] 37)=W:=⟨_,rfl⟩
 obtain⟨A0,-,-,-,-⟩:=nb3 G;have ZM:=ae G;clear G;have X0:=ae (I7 w (Z a n cap) 37);go_enter func64,ntmps64;go_wp2;rw[ZM.out] at X0 ⊢;clear ZM;go_loopg [4] n (λg i wr=>∃(k:Nat) (vo:ZC) (R:List DR),k+g=n/\i=J I k/\Hid (CpB wr w.heap.size (Z a n cap) vo)/\Hid (DRow wr (w.heap.size+3) vo R)/\Hid (R.map (·.1)=(List.range k).map f)/\Hid (∀r∈R,Som r)/\Hid (Below w.heap.size w wr));case atStart=>exact⟨0,_,[],by omega,rfl,X0.out,cA _ _,rfl,λr S=>absurd S (by simp),A0.out⟩
 case round =>
  clear X0 A0;obtain⟨k,vo,R,hk,rfl,V,D1,HE,la,B1⟩:=hrel;have ca:=V.out.a;have ZJ:=V.out.size;obtain⟨ao,co,rfl⟩:=cJ D1.out.i;by_cases fd:k<n
  ·have bt:R.length=k:=by have:=wA List.length HE.out;simpa using this
   have HRL:=ae bt;have hR4:(R.length:Int)<=1048576:=by omega
   clear bt;obtain⟨b,off,rfl,ZP⟩:=(HF.out.aa B1.out ly).resolve_left (by omega);have hbl:=ZP.1;obtain⟨c0,c1,c2,c3,⟨b0,e0,c4,h4⟩,⟨b1,e1,c5,h5⟩⟩:=ZP.2 k fd;clear ZP;obtain⟨ph,Bk⟩:=HM.out k fd;have dg:Hid ((List.range (k+1)).map f=(List.range k).map f++[f k]):=by show _=_;rw[OQ,DN];rfl
   generalize f k=x at c0 c1 c2 c3 c4 c5 h4 h5 ph Bk dg;obtain⟨W2,F⟩:∃W:M,wr.alloc (N #[Y x.e,J I x.m,J I x.E,Y x.B,Z b0 x.f e0,Z b1 x.b e1] 46)=W:=⟨_,rfl⟩
   obtain⟨D2,-,-⟩:=nb1 F;have D:=ae F;clear F;have S2:=ae (oN wr (Y x.e) (J I x.m) (J I x.E) (Y x.B) (Z b0 x.f e0) (Z b1 x.b e1) 46);have H4:=ae (h4.aa D2.out ly);have H5:=ae h5;have hz2':wr.heap.size+1=W2.heap.size:=by rw[<-D.out];simp
   have s4:=S2.out.c4.1;clear h4 h5;go_wp2_with fail;rw[D.out] at S2 s4 ⊢;clear D;clear ca c0 c1 c2 c3 c4 c5 s4;refine(jm b0 x.f e0 x.H _ (by omega) H4.out).mono ?_;rintro e w3 ⟨z,A,rfl,P,ZN⟩;have D3:=ae (D2.out.trans (ZN.mono (by omega)));have S3:=ae (S2.out.aa ZN (by omega));have hg0:=(dM P).1;obtain⟨s4,y4⟩:=S3.out.c4;have y:=ae (S3.out.set4 (Z (T (Q z 0 U)) x.f A));have E:=ae (D3.out.setCell (p:=(Q wr.heap.size 4 U)) ly (Z (T (Q z 0 U)) x.f A));have ZI:=ae (aQ (R:=wr.heap.size) (j:=4) (aB P (show wr.heap.size+1<=W2.heap.size by omega)) (by omega) (Z (T (Q z 0 U)) x.f A));have DE:W2.heap.size<=(w3.setCell (Q wr.heap.size 4 U) (Z (T (Q z 0 U)) x.f A)).heap.size:=by simpa using ZN.size
   have s5:=y.out.c5.1;clear P ZN;go_upto_region 7 with fail;generalize World.setCell w3 _ _=l at y E ZI DE s5 ⊢;clear s4 y4 S3 D3;go_cut [] (λX=>∃t s,Hid (DBox X wr.heap.size (Y x.e) (J I x.m) (J I x.E) (Y x.B) (Z (T (Q z 0 U)) x.f A) (Z (T (Q t 0 U)) x.b s))/\Hid (Below wr.heap.size wr X)/\Hid (X.ownsRow (wr.heap.size+1) 151 3 (Z (T (Q z 0 U)) x.f A) x.f (bJ x.H x.f))/\Hid (X.ownsRow (wr.heap.size+1) 91 4 (Z (T (Q t 0 U)) x.b s) x.b (bq x.D x.b)));case first =>
    have sm:=y.out.lt;cases b1 with
    |none =>
     have K:x.b=0:=by
      rcases H5.out with h|⟨_,_,h,_⟩
      {exact h};{cases h}
     have ho:bq x.D x.b=[]:=by rw[K];rfl
     have aq:=ae K;have ur:=ae ho;rw[K] at s5 y;have L:(l.setCell (Q wr.heap.size 5 U) (Z (T (Q l.heap.size 0 U)) 0 0)).heap.size=l.heap.size:=by simp
     have OM:=PS (base:=wr.heap.size+1) (e:=91) (size:=4) (l.setCell (Q wr.heap.size 5 U) (Z (T (Q l.heap.size 0 U)) 0 0)) #[] 0 (by rw[L];omega) (by unfold maxLen;omega) rfl;rw[L] at OM;have O5:=ae OM;have A6:=ae ((dB l.heap.size (l.setCell (Q wr.heap.size 5 U) (Z (T (Q l.heap.size 0 U)) 0 0))).alloc (by rw[L];exact n6 _) (N #[] 91));have S5:=ae ((y.out.set5 (Z (T (Q l.heap.size 0 U)) 0 0)).aa A6.out sm);have D5:=ae ((E.out.setCell (p:=(Q wr.heap.size 5 U)) ly (Z (T (Q l.heap.size 0 U)) 0 0)).trans (A6.out.mono E.out.size));have P5:=ae (own_below (aQ (R:=wr.heap.size) (j:=5) ZI.out (by omega) (Z (T (Q l.heap.size 0 U)) 0 0)) A6.out (by rw[L];exact n6 _));have f5:=y.out.c5.2;clear OM ho K;go_wp2;go_meet;exact⟨l.heap.size,0,(by show DBox _ _ _ _ _ _ _ _;rw[aq.out];exact S5.out),D5.out,P5.out,(by show World.ownsRow _ _ _ _ _ _ _;rw[ur.out,aq.out];exact O5.out)⟩
    |some ad =>
     have A5:=ae ((q9 l).alloc ly (N #[] 91));have R5:Hid (∀j u,(bq x.D x.b)[j]?=T u->(l.alloc (N #[] 91)).cell? (ad.add j)=T u):=by
      rcases((H5.out.aa E.out ly).aa A5.out ly) with h|⟨bb,oo,h,S⟩
      {intro j u hu;rw[h] at hu;simp[bq] at hu};{obtain rfl:=BC h;exact Ee S}
     have s5':=(A5.out.cell (p:=(Q wr.heap.size 5 U)) y.out.lt).trans s5;go_wp2_with (at_builtin;refine BS _ rfl (.tmp 23) (.tmp 25) 44 rfl l.heap.size 91 DQ (.agg #[Y ⟨#[]⟩,.bool ZA,.bool ZA,J I 0]) 4 32 QV hi mv ro n9 rfl (by decide) (Z (T (Q l.heap.size 0 U)) 0 0) 0 [] (by simp[Act.eval]) (PS l #[] 0 ly (by unfold maxLen;omega) rfl) ad x.b e1 (bq x.D x.b) (by simp[Act.eval]) (jb x.D x.b) R5.out (AU x.D x.b) (by unfold maxLen;omega) (by omega) (by simp) ?_;intro v5 w5 m q C;simp only[FM,LN] at m;obtain⟨t,s,rfl⟩:∃g c,v5=Z (T (Q g 0 U)) x.b c:=(by rcases m.2 with ⟨rfl,_⟩|⟨g,c,cur,rfl,_⟩;(have:=C.1 rfl;simp at this);exact⟨g,c,rfl⟩);have ZK:=ae (bg A5.out q (by simp) (λj e=>by simp[Value.ownBlock] at e;omega));have O5:=ae m;obtain⟨t5,u5⟩:=(y.out.aa ZK.out y.out.lt).c5;clear m q C);have B:=ae ((y.out.aa ZK.out y.out.lt).set5 (Z (T (Q t 0 U)) x.b s));have H:=ae ((E.out.trans (ZK.out.mono E.out.size)).setCell (p:=(Q wr.heap.size 5 U)) ly (Z (T (Q t 0 U)) x.b s));have ZL:=ae (aQ (R:=wr.heap.size) (j:=5) (own_below ZI.out ZK.out ly) (by omega) (Z (T (Q t 0 U)) x.b s));have O:=ae (aQ (R:=wr.heap.size) (j:=5) (aB O5.out (show wr.heap.size+1<=l.heap.size by omega)) (by omega) (Z (T (Q t 0 U)) x.b s));go_meet;exact⟨_,_,B.out,H.out,ZL.out,O.out⟩
   case rest =>
   clear y E ZI s5 H5;obtain⟨t,s,B,H,ZL,O⟩:=hcut;revert B H ZL O;generalize wc=ZQ;intro B H ZL O;have G6:Hid (DSub ZQ wr.heap.size (x,Z (T (Q z 0 U)) x.f A,Z (T (Q t 0 U)) x.b s)):=⟨aB ZL.out (by omega),aB O.out (by omega)⟩
   have X6:=ae (V.out.aa H.out ZJ);obtain⟨q0,_⟩:=B.out.c0;obtain⟨q1,_⟩:=B.out.c1;obtain⟨q2,_⟩:=B.out.c2;obtain⟨q3,_⟩:=B.out.c3;obtain⟨q4,_⟩:=B.out.c4;obtain⟨q5,_⟩:=B.out.c5;obtain⟨m0,m1⟩:=X6.out.o;have A7:=ae ((q9 ZQ).alloc ly (N #[Y x.e,J I x.m,J I x.E,Y x.B,Z (T (Q z 0 U)) x.f A,Z (T (Q t 0 U)) x.b s] 46));have D7:=ae (H.out.trans (A7.out.mono H.out.size));have R7:=ae (D1.out.aa D7.out ly);have G7:=ae (G6.out.aa A7.out ly);have ld:w.heap.size+3<=(ZQ.alloc (N #[Y x.e,J I x.m,J I x.E,Y x.B,Z (T (Q z 0 U)) x.f A,Z (T (Q t 0 U)) x.b s] 46)).heap.size:=p7 ZJ D7.out.size;go_wp2_with (at_builtin;refine BS _ rfl (.tmp 29) (.tmp 31) 35 rfl (w.heap.size+3) 46 DH (.agg #[Y ⟨#[]⟩,J I 0,J I 0,Y ⟨#[]⟩,Z U 0 0,Z U 0 0]) 6 96 OT hj qr th At rfl (by decide) (Z ao R.length co) R.length (R.flatMap ddV) (by simp[Act.eval]) R7.out.i (Q ZQ.heap.size 0 U) 1 1 (ddV (x,Z (T (Q z 0 U)) x.f A,Z (T (Q t 0 U)) x.b s)) (by simp[Act.eval]) rfl (I8 ZQ _ _ _ _ _ _ _) (by simp[ddV,Value.oneCell']) (by unfold maxLen;omega) (by omega) ld ?_;intro v' w8 m q C;obtain⟨gs,cs,rfl⟩:=cC m (by omega);have E8:=ae (bg (dB (w.heap.size+3) _) q ld (λj e=>(R7.out.i.lt j e).1));have M8:=ae (D1.out.more R7.out ZJ G7.out m q);have X8:=ae ((X6.out.aa A7.out X6.out.size).aa E8.out ly);have B8:=ae ((B1.out.trans (D7.out.mono B1.out.size)).trans (E8.out.mono (by omega)));obtain⟨k0,k1⟩:=X8.out.o;clear m q C);have M9:=ae (M8.out.set (p:=(Q (w.heap.size+1+1) 0 U)) (e:=0) (.inl (by show w.heap.size+1+1<w.heap.size+3;omega)) (Z (T (Q gs 0 U)) (R.length+1) cs));go_roundg (n - 1 - k);case measure=>omega
   case rel =>refine⟨k+1,Z (T (Q gs 0 U)) (R.length+1) cs,R++[(x,Value.slice (T (Q z 0 U)) x.f A,Value.slice (T (Q t 0 U)) x.b s)],by omega,by go_num,X8.out.out _,M9.out,?_,λr S=>(p8.1 S).elim (la.out r) (λh=>by rw[nD.1 h];exact⟨⟨_,_,rfl⟩,_,_,rfl⟩),B8.out.setCell (by show w.heap.size<=w.heap.size+2;omega) _⟩;show _=_;rw[dg.out,DN,HE.out];rfl
  ·have e:k=n:=by omega
   subst e;obtain⟨r0,z0⟩:=V.out.r;obtain⟨o0,_⟩:=V.out.o;go_wp2;exact bp (v:=.agg #[Z ao R.length co]) (by simp[results,results64,go_sem,r0]) rfl ⟨ao,co,R,rfl,D1.out.set (e:=0) (.inl (by show w.heap.size+1<w.heap.size+3;omega)) _,HE.out,la.out,B1.out.setCell (by show w.heap.size<=w.heap.size+1;omega) _⟩
structure FitD (x:Deed):Prop where
 nm:x.e.size<=5000
 tx:x.B.size<=5000
 an:x.f<=300
 asz:∀j,j<x.f->(x.H j).s.size<=5000
 ln:x.b<=300
 lsz:∀j,j<x.b->(x.D j).e.size<=5000
theorem FitD.fits (h:FitD x):cV x:=⟨by have:=h.an;omega,by have:=h.ln;omega⟩
theorem FitD.sized (h:FitD x):fj x:=by
 have h1:=h.nm;have h2:=h.tx;have h3:=h.an;have h5:=h.ln;refine⟨by unfold maxLen;omega,by unfold maxLen;omega,⟨by omega,λj b=>?_⟩,⟨by omega,λj b=>?_⟩⟩;{have:=h.asz j b;unfold maxLen;omega};{have:=h.lsz j b;unfold maxLen;omega}
structure FitK (K:Nat)(x:Deed):Prop where
 nm:x.e.size<=5000
 tx:x.B.size<=2000+K
 an:x.f<=200+K
 asz:∀j,j<x.f->(x.H j).s.size<=5000
 ln:x.b<=200+K
 lsz:∀j,j<x.b->(x.D j).e.size<=5000
theorem FitK.d (h:FitK K x)(hK:K<=90):FitD x:=⟨h.nm,by have:=h.tx;omega,by have:=h.an;omega,h.asz,by have:=h.ln;omega,h.lsz⟩
theorem FitK.up{L:Nat}(h:FitK K x)(hK:K<=L):FitK L x:=⟨h.nm,by have:=h.tx;omega,by have:=h.an;omega,h.asz,by have:=h.ln;omega,h.lsz⟩
theorem Is:FitK K fA:=⟨by decide,by show 0<=2000+K;omega,E4 _,λj b=>absurd b (by simp[fA]),E4 _,λj b=>absurd b (by simp[fA])⟩
theorem Aj:FitD fA:=⟨by decide,by decide,by decide,λj b=>absurd b (by simp[fA]),by decide,λj b=>absurd b (by simp[fA])⟩
theorem oI{s:ByteArray}(h:aw s=true):s.size<=60:=by unfold aw at h;rw[z8,AI] at h;exact h.1.2
theorem FH (S:Spc)(nm:ByteArray):∀x∈ik S (ci S nm).1,FitD x/\x.B.size<=2000/\x.f<=200/\x.b<=200:=by
 obtain⟨u,_,n⟩:=qA S nm;intro x p;obtain⟨e,i,rfl⟩:=QP.1 p;have c:=u.ents e i;have q:=n (List.ne_nil_of_mem i);have h1:=oI c.nm;have h2:=c.tx;have h3:=c.looks;have l:(iW S (ci S nm).1 e).b=e.looks.length:=rfl;have o:(iW S (ci S nm).1 e).f=fx S e:=rfl;have g:fx S e=0∨valid (S.f1 e.tg).H (S.f1 e.tg).f=true/\fx S e=(S.f1 e.tg).f:=by
  rcases c.m with ⟨b,_⟩|⟨b,_⟩|⟨b,_,t⟩
  {exact .inl (by unfold fx;rw[gM (by omega)])};{exact .inl (by unfold fx;rw[gM (by omega)])};{refine .inr ⟨q.H _ (cW t).1,?_⟩;unfold fx;rw[p6 b]}
 have hn:fx S e<=200:=by
  rcases g with h|⟨h,r⟩
  {omega};{have:=(bP h).2.2;omega}
 have y:∀j,j<fx S e->((S.f1 e.tg).H j).s.size<=5000:=by
  intro j f;rcases g with h|⟨h,r⟩
  {omega}
  ·have b:=gP (bP h).1 (show j<_ by omega);unfold aH at b;rw[AI] at b;have hm:aE ((S.f1 e.tg).H j).op<=2000:=by unfold aE;split<;>omega
   omega
 have m:∀j,j<e.looks.length->(lkF (ci S nm).1 e.looks j).e.size<=5000:=by intro j f;rw[Cn (gq f)];have:=oI (c.lname _ (gz f));show(e.looks[j]).e.size<=5000;omega
 exact⟨⟨by show e.e.size<=_;omega,by show e.B.size<=_;omega,by rw[o];omega,y,by rw[l];omega,m⟩,h2,by rw[o];exact hn,by rw[l];exact h3⟩
structure HAc (base:Nat)(w:M)(a:Option Addr)(n c:Nat)(f:Nat->Deed):Prop where
 sl:∀V,Agr base w V->SlDeed V a n f
 cap:n<=c
 hn:n<=50000
 ad:∀i,i<n->FitD (f i)
theorem HAc.agr (h:HAc b w a n c f)(g:Agr b w V):HAc b V a n c f:=⟨λZJ i=>h.sl ZJ (g.trans i),h.cap,h.hn,h.ad⟩
theorem HAc.mono (h:HAc b w a n c f)(hb:g<=b):HAc g w a n c f:=⟨λZJ i=>h.sl ZJ (i.mono hb),h.cap,h.hn,h.ad⟩
theorem HAc.here (h:HAc b w a n c f):SlDeed w a n f:=h.sl w (Agr.refl _ _)
theorem DSub.agr (h:DSub w b r)(c:Agr b w V):DSub V b r:=⟨iJ h.H c,iJ h.V c⟩
theorem DRow.agr{v:ZC}(h:DRow w b v R)(c:Agr b w V):DRow V b v R:=⟨iJ h.i c,λr f=>(h.sub r f).agr c,h.up⟩
theorem j5{size:Nat}{e:TypeId}{j:List ZC}(h:w.ownsRow b e size (Z a n c) i j):n<=c:=by
 rcases h.2 with ⟨f,h0⟩|⟨g,cap,cur,f,hb,hg,hc,_⟩
 {simp only[N1] at f;omega};{simp only[N1] at f;omega}
theorem JA (h:DRow w b (Z a R.length c) R)(f:∀r∈R,FitD r.1)(hn:R.length<=50000):HAc b w a R.length c (dF (R.map (·.1))):=by refine⟨λV j=>(h.agr j).ak,j5 h.i,hn,λi hi=>?_⟩;obtain⟨r,g,l⟩:=cZ hi;rw[gn g];exact f r l
def DAK (K:Nat)(w:M)(R q:Nat)(e:Ending)(b:M):Prop:=∃(a:Option Addr) (n c:Nat) (f:Nat->Deed),e=ZF (.agg #[Z a n c])/\HAc w.heap.size b a n c f/\(∃q':Nat,q'<=q/\Rd b R q'/\Only R w b)/\n<=450+K/\∀i,i<n->FitK K (f i)
theorem kL {c:Type}(g:c->List ZC)(C:Nat)(b:∀x,(g x).length=C){j:Nat}(i:j<C){x y:c}{u:ZC}(f:g y=(g x).set j u):∀(L:List c) (k:Nat),L[k]?=T x->(L.flatMap g).set (k*C+j) u=(L.set k y).flatMap g
 |[],k,h=>by simp at h
 |z::L,0,h=>by
  obtain rfl:z=x:=by simpa using h
  simp only[J2,List.set_cons_zero,WH,FM];rw[VY _ _ (by rw[b];exact i),f]
 |z::L,k+1,h=>by
  have l:L[k]?=T x:=by simpa using h
  have e:(k+1)*C+j - C=k*C+j:=by rw[Nat.add_mul];omega
  simp only[J2,UU];rw[SD _ _ (by rw[b,Nat.add_mul];omega),b,e,kL g C b i f L k l]
structure DRw (w:M)(base:Nat)(v:ZC)(R:List DR):Prop where
 i:w.ownsRow base 46 6 v R.length (R.flatMap ddV)
 sub:∀r∈R,DSub w base r
theorem DRow.rw{v:ZC}(h:DRow w b v R):DRw w b v R:=⟨h.i,h.sub⟩
theorem DRw.agr{v:ZC}(h:DRw w b v R)(c:Agr b w V):DRw V b v R:=⟨iJ h.i c,λr f=>(h.sub r f).agr c⟩
theorem DRw.mono{base':Nat}{v:ZC}(h:DRw w b v R)(hb:base'<=b):DRw w base' v R:=⟨aB h.i hb,λr c=>(h.sub r c).mono hb⟩
theorem DRw.aa{c:M}{B:Nat}{v:ZC}(h:DRw w b v R)(hb:Below B w c)(f:w.heap.size<=B):DRw c b v R:=⟨own_below h.i hb f,λr g=>(h.sub r g).aa hb f⟩
theorem DRw.ak (h:DRw w b (Z a R.length c) R):SlDeed w a R.length (dF (R.map (·.1))):=by
 by_cases hz:R.length=0;{exact .inl hz}
 ·obtain⟨g,c',e⟩:=cC h.i (by omega);cases e
  refine .inr ⟨g,0,rfl,(dM h.i).2,λi hi=>?_⟩;obtain⟨r,f,l⟩:=cZ hi;rw[gn f];have c:∀j,j<6->∀u,(ddV r)[j]?=T u->w.cell? (Q g (0+i*6+j) U)=T u:=λj p u s=>by rw[show 0+i*6+j=i*6+j by omega];exact(cR h.i f j p s).1
  obtain⟨n,c4,t,h4⟩:=(h.sub r l).ins;obtain⟨o,c5,m,q⟩:=(h.sub r l).D;exact⟨c 0 (by omega) _ rfl,c 1 (by omega) _ rfl,c 2 (by omega) _ rfl,c 3 (by omega) _ rfl,⟨n,c4,by rw[<-t];exact c 4 (by omega) _ rfl,h4⟩,⟨o,c5,by rw[<-m];exact c 5 (by omega) _ rfl,q⟩⟩
theorem vI (h:DRw w b (Z a n c) R)(e:n=R.length)(f:∀r∈R,FitD r.1)(hn:R.length<=50000):HAc b w a n c (dF (R.map (·.1))):=by subst e;refine⟨λV j=>(h.agr j).ak,j5 h.i,hn,λi hi=>?_⟩;obtain⟨r,g,l⟩:=cZ hi;rw[gn g];exact f r l
theorem DSub.put{f:Array ZC}{fz:Nat × Nat}(h:DSub w b r)(c:w.heap[g]?=T (N f 46 fz))(u:ZC):DSub (w.setCell (Q g j U) u) b r :=
 ⟨ip h.H c (by decide) u,ip h.V c (by decide) u⟩
theorem DRw.fld{k:Nat}(h:DRw w b (Z (T (Q g 0 U)) n c) R)(e:n=R.length)(s:R[k]?=T r)(o:j<6)(m:ddV r'=(ddV r).set j u)(q:DSub w b r'):DRw (w.setCell (Q g (k*6+j) U) u) b (Z (T (Q g 0 U)) n c) (R.set k r'):=by
 subst e;obtain⟨cs,z,l⟩:=bu h.i g rfl;have i:=nC (j:=k*6+j) h.i u;rw[kL ddV 6 (λ_=>rfl) o m R k s] at i;refine⟨by rw[KK];exact i,λp f=>?_⟩;rcases OV f with h2|rfl;{exact(h.sub p h2).put l u};{exact q.put l u}
theorem lF{P:Deed->Prop}{k:Nat}(h:∀r∈R,P r.1)(c:P r'.1):∀r∈R.set k r',P r.1:=λr b=>by
 rcases OV b with h2|rfl
 ·exact h r h2
 ·exact c
variable {K:Nat}
structure SpS (K:Nat)(w:M)(R X:Nat)(W:M)(q:Nat)(a:Option Addr)(c:Nat)(D:List DR):Prop where
 rd:Rd W R q
 o:Only R w W
 rs:W.heap[w.heap.size+1]?=T (N #[Z U 0 0] 37 (0,0))
 bx:W.heap[X]?=T (N #[Z a D.length c] 37 (0,0))
 row:DRw W (w.heap.size+2) (Z a D.length c) D
 ad:∀r∈D,FitK K r.1
 lo:R<w.heap.size
 hX:w.heap.size+2<=X
 num:D.length<=450+K
section
variable {w W W':M}{R X q q' c g k j:Nat}{a:Option Addr}{D:List DR}{r r':DR}{u:ZC}
theorem SpS.lt (h:SpS K w R X W q a c D):X<W.heap.size:=ag h.bx
theorem SpS.F (h:SpS K w R X W q a c D)(b:Only R W W')(hR:Rd W' R q'):SpS K w R X W' q' a c D:=by have hl:=h.lo;have hx:=h.hX;exact⟨hR,h.o.trans b,(b.block _ (ag h.rs) (by omega)).trans h.rs,(b.block _ h.lt (by omega)).trans h.bx,h.row.agr (b.agr (by omega)),h.ad,h.lo,h.hX,h.num⟩
theorem SpS.aa (h:SpS K w R X W q a c D)(b:Below W.heap.size W W'):SpS K w R X W' q a c D:=h.F (Only.u b) (h.rd.aa b ly)
theorem SpS.G (h:SpS K w R X W q a c D):W.cell? (Q X 0 U)=T (Z a D.length c)/\W.frozen? (Q X 0 U)=ZA:=by
 have hb:=h.bx;constructor;{simp[World.cell?,hb]};{simp[World.frozen?,hb]}
theorem SpS.L (h:SpS K w R X W q (T (Q g 0 U)) c D)(i:D[k]?=T r)(f:j<6)(b:(ddV r)[j]?=T u):W.cell? (Q g (k*6+j) U)=T u/\W.frozen? (Q g (k*6+j) U)=ZA:=cR h.row.i i j f b
theorem SpS.gb (h:SpS K w R X W q (T (Q g 0 U)) c D):w.heap.size+2<=g/\g<W.heap.size/\g≠X/\∃b z,W.heap[g]?=T (N b 46 z):=by obtain⟨b,z,f⟩:=bu h.row.i g rfl;obtain⟨h1,h2⟩:=dM h.row.i;refine⟨h1,h2,λe=>?_,b,z,f⟩;rw[e,h.bx] at f;simp at f
theorem SpS.put (h:SpS K w R X W q (T (Q g 0 U)) c D){b:List DR}(hn:b.length=D.length)(i:DRw (W.setCell (Q g j U) u) (w.heap.size+2) (Z (T (Q g 0 U)) D.length c) b)(f:∀r∈b,FitK K r.1):SpS K w R X (W.setCell (Q g j U) u) q (T (Q g 0 U)) c b:=by
 obtain⟨h1,h2,h3,cs,z,hg⟩:=h.gb;have hl:=h.lo;have B:=(dB (w.heap.size+2) W).setCell (p:=(Q g j U)) h1 u;refine⟨h.rd.low B (by omega),h.o.then (B.mono (by omega)),(B.block _ (by omega)).trans h.rs,?_,?_,f,h.lo,h.hX,by rw[hn];exact h.num⟩;{rw[hn];exact(qh _ _ _ _ (λe=>h3 e.symm)).trans h.bx};{rw[hn];exact i}
theorem SpS.fld (h:SpS K w R X W q (T (Q g 0 U)) c D)(m:D[k]?=T r)(l:j<6)(f:ddV r'=(ddV r).set j u)(i:DSub W (w.heap.size+2) r')(b:FitK K r'.1):SpS K w R X (W.setCell (Q g (k*6+j) U) u) q (T (Q g 0 U)) c (D.set k r') :=
 h.put KK (h.row.fld rfl m l f i) (lF h.ad b)
end
theorem SpS.fin{R:Nat}(h:SpS K w R X W q a c D)(l:K<=90)(j:q<=ZM):DAK K w R ZM (ZF (.agg #[Z a D.length c])) (W.setCell (Q (w.heap.size+1) 0 U) (Z a D.length c)):=by
 have hl:=h.lo;have B:=(dB w.heap.size W).setCell (p:=(Q (w.heap.size+1) 0 U)) (F6 _) (Z a D.length c);have f:Agr (w.heap.size+2) W (W.setCell (Q (w.heap.size+1) 0 U) (Z a D.length c)):=⟨by simp,λk h1 _=>qh _ _ _ _ (by show k≠w.heap.size+1;omega)⟩
 exact⟨a,D.length,c,_,rfl,(vI (h.row.agr f) rfl (λr b=>(h.ad r b).d l) (by have:=h.num;omega)).mono (by omega),⟨q,j,h.rd.low B h.lo,h.o.then B⟩,h.num,λi hi=>by
  obtain⟨r,b,g⟩:=cZ hi;rw[gn b]
  exact h.ad r g⟩
def FitI (x:Deed):Prop:=FitD x/\x.B.size<=2000/\x.f<=200/\x.b<=200
theorem FitI.k (h:FitI x):FitK K x:=⟨h.1.nm,by have:=h.2.1;omega,by have:=h.2.2.1;omega,h.1.asz,by have:=h.2.2.2;omega,h.1.lsz⟩
theorem FitK.m (h:FitK K x)(z:Int):FitK K { x with m:=z }:=⟨h.nm,h.tx,h.an,h.asz,h.ln,h.lsz⟩
theorem FitK.E (h:FitK K x)(z:Int):FitK K { x with E:=z }:=⟨h.nm,h.tx,h.an,h.asz,h.ln,h.lsz⟩
theorem FitK.B (h:FitK K x)(b:t.size<=2000+K):FitK K { x with B:=t }:=⟨h.nm,b,h.an,h.asz,h.ln,h.lsz⟩
theorem FitK.e (h:FitK K x)(b:t.size<=5000):FitK K { x with e:=t }:=⟨b,h.tx,h.an,h.asz,h.ln,h.lsz⟩
theorem DSub.same (h:DSub w b r)(y:Deed)(f:y.f=r.1.f)(i:y.H=r.1.H)(c:y.b=r.1.b)(g:y.D=r.1.D):DSub w b (y,r.2):=by
 refine⟨?_,?_⟩;{show w.ownsRow b 151 3 r.2.1 y.f (bJ y.H y.f);rw[f,i];exact h.H};{show w.ownsRow b 91 4 r.2.2 y.b (bq y.D y.b);rw[c,g];exact h.V}
def js (W:M)(g k:Nat)(r:DR):M:=(((((W.setCell (Q g (k*6) U) (Y r.1.e)).setCell (Q g (k*6+1) U) (J I r.1.m)).setCell (Q g (k*6+2) U) (J I r.1.E)).setCell (Q g (k*6+3) U) (Y r.1.B)).setCell (Q g (k*6+4) U) r.2.1).setCell (Q g (k*6+5) U) r.2.2
theorem jJ{k:Nat}(h:W.ownsRow b 46 6 (Z (T (Q g 0 U)) n c) n ((D.set k r).flatMap ddV))(m:k<D.length)(l:j<6)(i:ddV r'=(ddV r).set j u):(W.setCell (Q g (k*6+j) U) u).ownsRow b 46 6 (Z (T (Q g 0 U)) n c) n ((D.set k r').flatMap ddV):=by have f:=nC (j:=k*6+j) h u;rw[kL ddV 6 (λ_=>rfl) l i (D.set k r) k (by rw[PU m]),VG] at f;exact f
theorem vJ{k:Nat}(r':DR)(h:W.ownsRow b 46 6 (Z (T (Q g 0 U)) n c) n (D.flatMap ddV))(m:D[k]?=T r):(js W g k r').ownsRow b 46 6 (Z (T (Q g 0 U)) n c) n ((D.set k r').flatMap ddV):=by
 obtain⟨f,l⟩:=n8.1 m;have i:W.ownsRow b 46 6 (Z (T (Q g 0 U)) n c) n ((D.set k r).flatMap ddV):=by rw[<-l,List.set_getElem_self];exact h
 have h1:=jJ (j:=0) (u:=Y r'.1.e) (r':=({ r.1 with e:=r'.1.e },r.2)) i f (by omega) rfl;have h2:=jJ (j:=1) (u:=J I r'.1.m) (r':=({ r.1 with e:=r'.1.e,m:=r'.1.m },r.2)) h1 f (by omega) rfl;have h3:=jJ (j:=2) (u:=J I r'.1.E) (r':=({ r.1 with e:=r'.1.e,m:=r'.1.m,E:=r'.1.E },r.2)) h2 f (by omega) rfl;have h4:=jJ (j:=3) (u:=Y r'.1.B) (r':=({ r.1 with e:=r'.1.e,m:=r'.1.m,E:=r'.1.E,B:=r'.1.B },r.2)) h3 f (by omega) rfl;have o:=jJ (j:=4) (u:=r'.2.1) (r':=({ r.1 with e:=r'.1.e,m:=r'.1.m,E:=r'.1.E,B:=r'.1.B },r'.2.1,r.2.2)) h4 f (by omega) rfl;exact jJ (j:=5) (u:=r'.2.2) (r':=r') o f (by omega) rfl
theorem fy (W:M)(g k m:Nat)(r:DR)(h:m≠g):(js W g k r).heap[m]?=W.heap[m]?:=by unfold js;repeat rw[qh _ _ _ _ (by show m≠g;exact h)]
theorem qD (W:M)(g k B:Nat)(r:DR)(h:B<=g):Below B W (js W g k r) :=
 ((((((dB B W).setCell (p:=(Q g (k*6) U)) h _).setCell (p:=(Q g (k*6+1) U)) h _).setCell (p:=(Q g (k*6+2) U)) h _).setCell (p:=(Q g (k*6+3) U)) h _).setCell (p:=(Q g (k*6+4) U)) h _).setCell (p:=(Q g (k*6+5) U)) h _
theorem DSub.far (h:DSub W b r)(f:∀m,r.2.1.ownBlock=T m->OfTy W m 151->W'.heap[m]?=W.heap[m]?)(c:∀m,r.2.2.ownBlock=T m->OfTy W m 91->W'.heap[m]?=W.heap[m]?):DSub W' b r:=⟨bD h.H f,bD h.V c⟩
theorem SpS.am{R q' k cl:Nat}(h:SpS K w R X W q (T (Q g 0 U)) c D)(E:D.Pairwise λa b=>Apt a.2.1 b.2.1/\Apt a.2.2 b.2.2)(P:D[k]?=T r)(S:r∈D)(ZO:r.2.2=Z (T (Q o 0 U)) r.1.b cl)
  (hR:Rd W' R q') (ZK:Only R w W') (keep:∀i,i<W.heap.size->i≠R->i≠o->W'.heap[i]?=W.heap[i]?) (r':DR) (hs:DSub W' (w.heap.size+2) r') (V:FitK K r'.1):SpS K w R X (js W' g k r') q' (T (Q g 0 U)) c (D.set k r'):=by
 obtain⟨h1,h2,h3,cs,z,ZQ⟩:=h.gb;have hlo:=h.lo;have hX:=h.hX;obtain⟨cl2,zl,x⟩:=bu (h.row.sub r S).V o (by rw[ZO];rfl);have hlb:w.heap.size+2<=o:=((h.row.sub r S).V.lt o (by rw[ZO];rfl)).1;have ZL:g≠o:=λe=>by rw[e,x] at ZQ;simp at ZQ
 have ZM:X≠o:=λe=>by have:=h.bx;rw[e,x] at this;simp at this
 have ZJ:=keep g h2 (by omega) ZL;have B:=qD W' g k (w.heap.size+2) r' h1;have L:W'.ownsRow (w.heap.size+2) 46 6 (Z (T (Q g 0 U)) D.length c) D.length (D.flatMap ddV):=bD h.row.i λm f _=>by
  obtain rfl:g=m:=by simpa[Value.ownBlock] using f
  exact ZJ
 have hn:(D.set k r').length=D.length:=KK;have O:∀m e,OfTy W m e->e≠91->w.heap.size+2<=m->W'.heap[m]?=W.heap[m]?:=λm e n ZI hb=>by obtain⟨c0,z0,j⟩:=n;exact keep m (ag j) (by omega) λp=>by rw[p,x] at j;simp at j;exact ZI j.2.1.symm
 have C:∀s,DSub W' (w.heap.size+2) s->DSub (js W' g k r') (w.heap.size+2) s:=λs t=>by
  have ZN:W'.heap[g]?=T (N cs 46 z):=ZJ.trans ZQ;refine t.far (λm _ n=>fy _ _ _ _ _ λe=>?_) λm _ n=>fy _ _ _ _ _ λe=>?_;{obtain⟨c0,z0,j⟩:=n;rw[e,ZN] at j;simp at j};{obtain⟨c0,z0,j⟩:=n;rw[e,ZN] at j;simp at j}
 refine⟨hR.low B (by omega),ZK.then (B.mono (by omega)),?_,?_,⟨?_,λs t=>?_⟩,lF h.ad V,h.lo,h.hX,by rw[hn];exact h.num⟩;{exact(B.block _ (by omega)).trans ((keep _ (ag h.rs) (by omega) (by omega)).trans h.rs)};{rw[hn];exact(fy _ _ _ _ _ (λe=>h3 e.symm)).trans ((keep X h.lt (by omega) ZM).trans h.bx)};{rw[hn];exact vJ r' L P}
 ·obtain⟨i,hi⟩:=Q9 t;by_cases e:i=k;{subst e;rw[PU (by rw[<-hn];exact(n8.1 hi).1)] at hi;obtain rfl:=BC hi;exact C _ hs}
  ·rw[QK (λp=>e p.symm)] at hi;have y:=LB hi;refine C s ((h.row.sub s y).far (λm f n=>O m _ n (by decide) ((h.row.sub s y).H.lt m f).1) (λm f n=>?_));obtain⟨c0,z0,j⟩:=n;have hb:=((h.row.sub s y).V.lt m f).1;refine keep m (ag j) (by omega) λp=>?_;obtain⟨F,ZP⟩:=n8.1 hi;obtain⟨G,H⟩:=n8.1 P;have u:r.2.2.ownBlock=T o:=by rw[ZO];rfl
   rcases Nat.lt_or_gt_of_ne e with A|A;{have:=(PO.1 E i k F G A).2;rw[ZP,H] at this;rcases this with l|l;{rw[f] at l;cases l};{exact l (by rw[f,u,p])}};{have:=(PO.1 E k i G F A).2;rw[ZP,H] at this;rcases this with l|l;{rw[u] at l;cases l};{exact l (by rw[f,u,p])}}
theorem SpS.actK{R s l:Nat}(h:SpS K w R X W q (T (Q g 0 U)) c D)(f:r∈D)(t:r.2.1=Z (T (Q l 0 U)) r.1.f o)(p:r.2.2=Z (T (Q j 0 U)) r.1.b s)(keep:∀i,i<W.heap.size->i≠R->i≠j->W'.heap[i]?=W.heap[i]?):W'.ownsRow (w.heap.size+2) 151 3 (Z (T (Q l 0 U)) r.1.f o) r.1.f (bJ r.1.H r.1.f):=by have hlo:=h.lo;obtain⟨cl2,zl,n⟩:=bu (h.row.sub r f).V j (by rw[p];rfl);rw[<-t];refine bD (h.row.sub r f).H λm h1 h2=>?_;obtain⟨c0,z0,b⟩:=h2;have hb:=((h.row.sub r f).H.lt m h1).1;exact keep m (ag b) (by omega) (λe=>by rw[e,n] at b;simp at b)
theorem SpS.kept{R f:Nat}(h:SpS K w R X W q (T (Q g 0 U)) c D)(o:r∈D)(m:r.2.2=Z (T (Q f 0 U)) r.1.b n)(keep:∀i,i<W.heap.size->i≠R->i≠f->W'.heap[i]?=W.heap[i]?):W'.heap[X]?=W.heap[X]?/\W'.heap[g]?=W.heap[g]?/\g<W'.heap.size:=by obtain⟨h1,h2,h3,cs,z,j⟩:=h.gb;have hlo:=h.lo;have hX:=h.hX;obtain⟨cl2,zl,b⟩:=bu (h.row.sub r o).V f (by rw[m];rfl);have l:=keep g h2 (by omega) (λe=>by rw[e,b] at j;simp at j);exact⟨keep X h.lt (by omega) (λe=>by have:=h.bx;rw[e,b] at this;simp at this),l,ag (l.trans j)⟩
theorem SpS.six{R k:Nat}(h:SpS K w R X W q (T (Q g 0 U)) c D)(t:D[k]?=T r)(r':DR)(p:DSub W (w.heap.size+2) r')(n:FitK K r'.1):SpS K w R X (js W g k r') q (T (Q g 0 U)) c (D.set k r'):=by
 obtain⟨h1,h2,h3,cs,z,l⟩:=h.gb;have hlo:=h.lo;have B:=qD W g k (w.heap.size+2) r' h1;have hn:(D.set k r').length=D.length:=KK;have b:∀s,DSub W (w.heap.size+2) s->DSub (js W g k r') (w.heap.size+2) s:=λs i=>by
  refine i.far (λm _ j=>fy _ _ _ _ _ λe=>?_) λm _ j=>fy _ _ _ _ _ λe=>?_;{obtain⟨c0,z0,f⟩:=j;rw[e,l] at f;simp at f};{obtain⟨c0,z0,f⟩:=j;rw[e,l] at f;simp at f}
 refine⟨h.rd.low B (by omega),h.o.then (B.mono (by omega)),(B.block _ (by omega)).trans h.rs,?_,⟨?_,λs i=>?_⟩,lF h.ad n,h.lo,h.hX,by rw[hn];exact h.num⟩;{rw[hn];exact(fy _ _ _ _ _ (λe=>h3 e.symm)).trans h.bx};{rw[hn];exact vJ r' h.row.i t};{rcases OV i with u|rfl;{exact b s (h.row.sub s u)};{exact b _ p}}
theorem DSub.aq{f:Nat}(h:DSub w b r)(l:r.2.1=Z (T (Q g 0 U)) r.1.f f)(j:r.2.2=Z (T (Q c 0 U)) r.1.b i):DSub w b (r.1,Z (T (Q g 0 U)) r.1.f f,Z (T (Q c 0 U)) r.1.b i):=by rw[<-l,<-j];exact h
theorem DSub.six{k:Nat}{s:DR}{j:Array ZC}{z:Nat × Nat}(h:DSub W b s)(i:W.heap[g]?=T (N j 46 z)):DSub (js W g k r') b s:=by
 refine h.far (λm _ f=>fy _ _ _ _ _ λe=>?_) λm _ f=>fy _ _ _ _ _ λe=>?_;{obtain⟨c0,z0,c⟩:=f;rw[e,i] at c;simp at c};{obtain⟨c0,z0,c⟩:=f;rw[e,i] at c;simp at c}
variable {K:Nat}
def noR:DR:=(fA,Z U 0 0,Z U 0 0)
theorem FJ (n i:Nat)(h:i<n*6):(dw n)[i]?=(ddV noR)[i % 6]?:=by
 have e:(dw n)[i]?=T ((Value.agg #[Y ⟨#[]⟩,J I 0,J I 0,Y ⟨#[]⟩,Z U 0 0,Z U 0 0]).cells[i % 6]!):=by unfold dw madeCells;simp[h];rfl
 rw[e];have b:i % 6<6:=TX _ (by omega);generalize i % 6=j at b;rcases(show j=0∨j=1∨j=2∨j=3∨j=4∨j=5 by omega) with rfl|rfl|rfl|rfl|rfl|rfl<;>rfl
theorem Ak (n:Nat):(dw n).toList=(List.replicate n noR).flatMap ddV:=by
 refine TW λi=>?_;by_cases h:i<n*6
 ·have e:i=i / 6*6+i % 6:=by omega
  rw[LY,FJ n i h];conv=>rhs;rw[e]
  rw[dt ddV 6 (λ_=>rfl) _ (i / 6) (i % 6) (by omega) noR (by rw[List.getElem?_replicate,p6 (by omega)])]
 {have hz:(dw n).size=n*6:=size_madeCells _ _;rw[OH (by rw[PX,hz];omega),OH (by rw[eW ddV 6 (λ_=>rfl),SE];omega)]}
theorem CS (w:M)(b n:Nat)(hb:b<=w.heap.size)(hn:n<=1000):DRw (w.alloc (N (dw n) 46)) b (Z (T (Q w.heap.size 0 U)) n n) (List.replicate n noR):=by
 have hz:(dw n).size=n*6:=size_madeCells _ _;have f:((List.replicate n noR).flatMap ddV).length=n*6:=by rw[eW ddV 6 (λ_=>rfl),SE]
 refine⟨?_,λr c=>?_⟩;{rw[SE];refine⟨f,.inr ⟨w.heap.size,n,dw n,rfl,hb,nL w _,n6 _,by unfold maxLen;omega,hz,?_⟩⟩;rw[<-Ak,IU (by rw[PX,hz];omega)]};{rw[List.eq_of_mem_replicate c];exact⟨A9 _ _ _ _,A9 _ _ _ _⟩}
theorem CY{R m:Nat}(h:SpS K w R X W q a c D)(hm:m<=450)(f:q<=ZM):DAK K w R ZM (ZF (.agg #[Z (T (Q W.heap.size 0 U)) m m])) ((W.setCell (Q (w.heap.size+1) 0 U) (Z (T (Q W.heap.size 0 U)) m m)).alloc (N (dw m) 46)):=by
 have hl:=h.lo;have hx:=h.lt;have hX:=h.hX;have hz:(W.setCell (Q (w.heap.size+1) 0 U) (Z (T (Q W.heap.size 0 U)) m m)).heap.size=W.heap.size:=by simp
 have B:=((dB w.heap.size W).setCell (p:=(Q (w.heap.size+1) 0 U)) (F6 _) (Z (T (Q W.heap.size 0 U)) m m)).alloc (by rw[hz];omega) (N (dw m) 46);have b:=CS (W.setCell (Q (w.heap.size+1) 0 U) (Z (T (Q W.heap.size 0 U)) m m)) w.heap.size m (by rw[hz];omega) (by omega);rw[hz] at b
 exact⟨T (Q W.heap.size 0 U),m,m,_,rfl,vI b (by rw[SE]) (λr b=>by rw[List.eq_of_mem_replicate b];exact Aj) (by rw[SE];omega),⟨q,f,h.rd.low B h.lo,h.o.then B⟩,by omega,λi hi=>by
  rw[gn (r:=noR) (by rw[List.getElem?_replicate,p6 hi])]
  exact Is⟩
theorem SpS.box_{R:Nat}{j:Option Addr}{b:List DR}(h:SpS K w R X W q a c D)(C:Below W.heap.size W W')(l:W'.ownsRow (w.heap.size+2) 46 6 (Z j b.length g) b.length (b.flatMap ddV))(A:∀r∈b,DSub W' (w.heap.size+2) r)(s:∀r∈b,FitK K r.1)(hn:b.length<=450+K):SpS K w R X (W'.setCell (Q X 0 U) (Z j b.length g)) q j g b:=by
 have i:=h.aa C;have hX:=h.hX;have hlo:=h.lo;have B:=(dB (w.heap.size+2) W').setCell (p:=(Q X 0 U)) hX (Z j b.length g);have far:∀m,m≠X->(W'.setCell (Q X 0 U) (Z j b.length g)).heap[m]?=W'.heap[m]?:=λm y=>qh _ _ _ _ y;have n:∀m e,OfTy W' m e->e≠37->m≠X:=λm e f z x=>by obtain⟨c0,z0,u⟩:=f;have:=i.bx;rw[<-x,u] at this;simp at this;exact z this.2.1
 refine⟨i.rd.low B (by omega),i.o.then (B.mono (by omega)),(B.block _ (by omega)).trans i.rs,?_,⟨bD l λm _ f=>far m (n m _ f (by decide)),λr t=>(A r t).far (λm _ f=>far m (n m _ f (by decide))) (λm _ f=>far m (n m _ f (by decide)))⟩,s,h.lo,h.hX,hn⟩;exact bW i.bx _
theorem Al{base k:Nat}(hk:k<D.length)(hc:D.length<=c):∃f:Addr,(if c=k+1 then T ((Q g 0 U):Addr) else T ⟨g,(k+1)*6,U⟩)=T f /\
  ∀V:M,V.ownsRow base 46 6 (Z (T (Q g 0 U)) D.length c) D.length (D.flatMap ddV)->∀j u,((D.drop (k+1)).flatMap ddV)[j]?=T u->V.cell? (f.add j)=T u:=by
 by_cases h:c=k+1;{refine⟨(Q g 0 U),by rw[p6 h],λV i j u b=>?_⟩;rw[VF (by omega)] at b;simp at b}
 ·refine⟨⟨g,(k+1)*6,U⟩,by rw[gM h],λV i j u b=>?_⟩
  have h1:=i.cells (g:=g) rfl ((k+1)*6+j) u (by
   have e:D.flatMap ddV=(D.take (k+1)).flatMap ddV++(D.drop (k+1)).flatMap ddV:=by rw[<-BO,PI]
   have l:((D.take (k+1)).flatMap ddV).length=(k+1)*6:=by rw[eW ddV 6 (λ_=>rfl),OD,QW (by omega)]
   rw[e,IX (by omega),l,Nat.add_sub_cancel_left]
   exact b)
  rw[jc] at h1 ⊢;rwa[FM] at h1
theorem CZ (k:Nat)(h:V.ownsRow b 46 6 (Z (T (Q g 0 U)) D.length c) D.length (D.flatMap ddV)):∀j u,((D.take k).flatMap ddV)[j]?=T u->V.cell? (((Q g 0 U):Addr).add j)=T u:=by
 intro j u f;refine h.cells (g:=g) rfl j u ?_;have e:D.flatMap ddV=(D.take k).flatMap ddV++(D.drop k).flatMap ddV:=by rw[<-BO,PI]
 rw[e,N9 (n8.1 f).1];exact f
theorem rJ (D:List DR)(h:∀r∈D,Som r):∀u∈D.flatMap ddV,u.oneCell'=true:=by intro u j;obtain⟨r,f,b⟩:=PV.1 j;obtain⟨⟨g,c,i⟩,g',c',l⟩:=h r f;simp only[ddV,i,l,AT,nj,QZ] at b;rcases b with rfl|rfl|rfl|rfl|rfl|rfl<;>rfl
