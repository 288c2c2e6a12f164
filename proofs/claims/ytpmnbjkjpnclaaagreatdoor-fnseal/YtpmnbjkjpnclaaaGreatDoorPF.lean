import Derived.Test.YtpmnbjkjpnclaaaGreatDoorQQ
import Derived.Test.YtpmnbjkjpnclaaaGreatDoorQP
set_option maxRecDepth 100000
set_option maxHeartbeats 8000000
open Go renaming Addr.mk->Q,Value.slice->Z,Value.string->U,Value.int->N,Value.agg->ZH,Obj.cells->J,IntKind.i64->I,World->M,Value->ZC,Ending.returned->ZF
open Option renaming none->Y,some->T
open Bool renaming false->ZA
namespace Go.Proofs.YtpmnbjkjpnclaaaGreatDoor.Vp
open Tryz RowKit Ca
variable {w W V W':M}{b c g n X q j K o i ZN:Nat}{r r':DR}{D R:List DR}{a:Option Addr}{x:Deed}{f:Nat->Deed}{u:ZC}{t:ByteArray}
def Som (r:DR):Prop:=(∃g c,r.2.1=Z (T (Q g 0 Y)) r.1.f c)/\∃g c,r.2.2=Z (T (Q g 0 Y)) r.1.b c
theorem Dk (a:Option Addr)(n cap:Nat)(f:Nat->Deed)(w:M)(hn:(n:Int)<=1048576)(hf:SlDeed w a n f)(ZO:∀i,i<n->cV (f i)):Calls Tryz.prog 64 #[ZH #[Z a n cap]] w λe w'=>∃a c R,e=ZF (ZH #[Z a R.length c])/\DRow w' (w.heap.size+3) (Z a R.length c) R/\R.map (·.1)=(List.range n).map f/\(∀r∈R,Som r)/\Below w.heap.size w w':=by
 have HF:=ae hf;have HM:=ae ZO;clear hf ZO;obtain⟨sm,hi,ur,At,DQ⟩:=OB iC;obtain⟨mv,hj,ro,n9,th⟩:=OB fm;obtain⟨W0,G⟩:∃W:M,((w.alloc (J #[Z a n cap] 37)).alloc (J #[Z Y 0 0] 37)).alloc (J #[Z Y 0 0] 37)=W:=⟨_,rfl⟩
 obtain⟨A0,-,-,-,-⟩:=nb3 G;have O:=ae G;clear G;have X0:=ae (Jh w (Z a n cap) 37);go_enter func64,ntmps64;go_wp2;rw[O.out] at X0 ⊢;clear O;go_loopg [4] n (λg i wr=>∃(k:Nat) (vo:ZC) (R:List DR),k+g=n/\i=N I k/\Hid (CpB wr w.heap.size (Z a n cap) vo)/\Hid (DRow wr (w.heap.size+3) vo R)/\Hid (R.map (·.1)=(List.range k).map f)/\Hid (∀r∈R,Som r)/\Hid (Below w.heap.size w wr));case atStart=>exact⟨0,_,[],by omega,rfl,X0.out,cA _ _,rfl,λr S=>absurd S (by simp),A0.out⟩
 case round =>
  clear X0 A0;obtain⟨k,vo,R,hk,rfl,ZN,D1,HE,la,ZK⟩:=hrel;have ca:=ZN.out.a;have P:=ZN.out.size;obtain⟨ao,co,rfl⟩:=cJ D1.out.i;by_cases dg:k<n
  ·have ld:R.length=k:=by have:=wA List.length HE.out;simpa using this
   have HRL:=ae ld;have hR4:(R.length:Int)<=1048576:=by omega
   clear ld;obtain⟨b,off,rfl,E⟩:=(HF.out.aa ZK.out ly).resolve_left (by omega);have hbl:=E.1;obtain⟨c0,c1,c2,c3,⟨b0,e0,c4,h4⟩,⟨b1,e1,c5,h5⟩⟩:=E.2 k dg;clear E;obtain⟨DE,DH⟩:=HM.out k dg;have fd:Hid ((List.range (k+1)).map f=(List.range k).map f++[f k]):=by show _=_;rw[PD,DN];rfl
   generalize f k=x at c0 c1 c2 c3 c4 c5 h4 h5 DE DH fd;obtain⟨W2,D⟩:∃W:M,wr.alloc (J #[U x.e,N I x.m,N I x.E,U x.B,Z b0 x.f e0,Z b1 x.b e1] 46)=W:=⟨_,rfl⟩
   obtain⟨D2,-,-⟩:=nb1 D;have ZQ:=ae D;clear D;have S2:=ae (oR wr (U x.e) (N I x.m) (N I x.E) (U x.B) (Z b0 x.f e0) (Z b1 x.b e1) 46);have H4:=ae (h4.aa D2.out ly);have H5:=ae h5;have hz2':wr.heap.size+1=W2.heap.size:=by rw[<-ZQ.out];simp
   have s4:=S2.out.c4.1;clear h4 h5;go_wp2_with fail;rw[ZQ.out] at S2 s4 ⊢;clear ZQ;clear ca c0 c1 c2 c3 c4 c5 s4;refine(jn b0 x.f e0 x.H _ (by omega) H4.out).mono ?_;rintro e w3 ⟨A,z,rfl,ZM,ZP⟩;have D3:=ae (D2.out.trans (ZP.mono (by omega)));have S3:=ae (S2.out.aa ZP (by omega));have hg0:=(dN ZM).1;obtain⟨s4,y4⟩:=S3.out.c4;have y:=ae (S3.out.set4 (Z (T (Q A 0 Y)) x.f z));have H:=ae (D3.out.setCell (p:=(Q wr.heap.size 4 Y)) ly (Z (T (Q A 0 Y)) x.f z));have O4:=ae (aQ (R:=wr.heap.size) (j:=4) (aB ZM (show wr.heap.size+1<=W2.heap.size by omega)) (by omega) (Z (T (Q A 0 Y)) x.f z));have ph:W2.heap.size<=(w3.setCell (Q wr.heap.size 4 Y) (Z (T (Q A 0 Y)) x.f z)).heap.size:=by simpa using ZP.size
   have ZJ:=y.out.c5.1;clear ZM ZP;go_upto_region 7 with fail;generalize World.setCell w3 _ _=l at y H O4 ph ZJ ⊢;clear s4 y4 S3 D3;go_cut [] (λwx=>∃s t,Hid (DBox wx wr.heap.size (U x.e) (N I x.m) (N I x.E) (U x.B) (Z (T (Q A 0 Y)) x.f z) (Z (T (Q s 0 Y)) x.b t))/\Hid (Below wr.heap.size wr wx)/\Hid (wx.ownsRow (wr.heap.size+1) 151 3 (Z (T (Q A 0 Y)) x.f z) x.f (bJ x.H x.f))/\Hid (wx.ownsRow (wr.heap.size+1) 91 4 (Z (T (Q s 0 Y)) x.b t) x.b (bq x.D x.b)));case first =>
    have qr:=y.out.lt;cases b1 with
    |none =>
     have L:x.b=0:=by
      rcases H5.out with h|⟨_,_,h,_⟩
      {exact h};{cases h}
     have ho:bq x.D x.b=[]:=by rw[L];rfl
     have bt:=ae L;have Bk:=ae ho;rw[L] at ZJ y;have K:(l.setCell (Q wr.heap.size 5 Y) (Z (T (Q l.heap.size 0 Y)) 0 0)).heap.size=l.heap.size:=by simp
     have OM:=P3 (base:=wr.heap.size+1) (e:=91) (size:=4) (l.setCell (Q wr.heap.size 5 Y) (Z (T (Q l.heap.size 0 Y)) 0 0)) #[] 0 (by rw[K];omega) (by unfold maxLen;omega) rfl;rw[K] at OM;have O5:=ae OM;have A6:=ae ((dB l.heap.size (l.setCell (Q wr.heap.size 5 Y) (Z (T (Q l.heap.size 0 Y)) 0 0))).alloc (by rw[K];exact n6 _) (J #[] 91));have S5:=ae ((y.out.set5 (Z (T (Q l.heap.size 0 Y)) 0 0)).aa A6.out qr);have D5:=ae ((H.out.setCell (p:=(Q wr.heap.size 5 Y)) ly (Z (T (Q l.heap.size 0 Y)) 0 0)).trans (A6.out.mono H.out.size));have P5:=ae (own_below (aQ (R:=wr.heap.size) (j:=5) O4.out (by omega) (Z (T (Q l.heap.size 0 Y)) 0 0)) A6.out (by rw[K];exact n6 _));have f5:=y.out.c5.2;clear OM ho L;go_wp2;go_meet;exact⟨l.heap.size,0,(by show DBox _ _ _ _ _ _ _ _;rw[bt.out];exact S5.out),D5.out,P5.out,(by show World.ownsRow _ _ _ _ _ _ _;rw[Bk.out,bt.out];exact O5.out)⟩
    |some ad =>
     have A5:=ae ((q9 l).alloc ly (J #[] 91));have R5:Hid (∀j u,(bq x.D x.b)[j]?=T u->(l.alloc (J #[] 91)).cell? (ad.add j)=T u):=by
      rcases((H5.out.aa H.out ly).aa A5.out ly) with h|⟨bb,oo,h,S⟩
      {intro j u hu;rw[h] at hu;simp[bq] at hu};{obtain rfl:=BC h;exact Ek S}
     have s5':=(A5.out.cell (p:=(Q wr.heap.size 5 Y)) y.out.lt).trans ZJ;go_wp2_with (at_builtin;refine BS _ rfl (.tmp 23) (.tmp 25) 44 rfl l.heap.size 91 sm (ZH #[U ⟨#[]⟩,.bool ZA,.bool ZA,N I 0]) 4 32 Q2 hi ur At DQ rfl (by decide) (Z (T (Q l.heap.size 0 Y)) 0 0) 0 [] (by simp[Act.eval]) (P3 l #[] 0 ly (by unfold maxLen;omega) rfl) ad x.b e1 (bq x.D x.b) (by simp[Act.eval]) (jc x.D x.b) R5.out (AZ x.D x.b) (by unfold maxLen;omega) (by omega) (by simp) ?_;intro v5 w5 m q C;simp only[FM,LY] at m;obtain⟨s,t,rfl⟩:∃g c,v5=Z (T (Q g 0 Y)) x.b c:=(by rcases m.2 with ⟨rfl,_⟩|⟨g,c,cur,rfl,_⟩;(have:=C.1 rfl;simp at this);exact⟨g,c,rfl⟩);have X:=ae (bg A5.out q (by simp) (λj e=>by simp[Value.ownBlock] at e;omega));have O5:=ae m;obtain⟨t5,u5⟩:=(y.out.aa X.out y.out.lt).c5;clear m q C);have B:=ae ((y.out.aa X.out y.out.lt).set5 (Z (T (Q s 0 Y)) x.b t));have F:=ae ((H.out.trans (X.out.mono H.out.size)).setCell (p:=(Q wr.heap.size 5 Y)) ly (Z (T (Q s 0 Y)) x.b t));have V:=ae (aQ (R:=wr.heap.size) (j:=5) (own_below O4.out X.out ly) (by omega) (Z (T (Q s 0 Y)) x.b t));have ZL:=ae (aQ (R:=wr.heap.size) (j:=5) (aB O5.out (show wr.heap.size+1<=l.heap.size by omega)) (by omega) (Z (T (Q s 0 Y)) x.b t));go_meet;exact⟨_,_,B.out,F.out,V.out,ZL.out⟩
   case rest =>
   clear y H O4 ZJ H5;obtain⟨s,t,B,F,V,ZL⟩:=hcut;revert B F V ZL;generalize wc=ZR;intro B F V ZL;have G6:Hid (DSub ZR wr.heap.size (x,Z (T (Q A 0 Y)) x.f z,Z (T (Q s 0 Y)) x.b t)):=⟨aB V.out (by omega),aB ZL.out (by omega)⟩
   have X6:=ae (ZN.out.aa F.out P);obtain⟨q0,_⟩:=B.out.c0;obtain⟨q1,_⟩:=B.out.c1;obtain⟨q2,_⟩:=B.out.c2;obtain⟨q3,_⟩:=B.out.c3;obtain⟨q4,_⟩:=B.out.c4;obtain⟨q5,_⟩:=B.out.c5;obtain⟨m0,m1⟩:=X6.out.o;have A7:=ae ((q9 ZR).alloc ly (J #[U x.e,N I x.m,N I x.E,U x.B,Z (T (Q A 0 Y)) x.f z,Z (T (Q s 0 Y)) x.b t] 46));have D7:=ae (F.out.trans (A7.out.mono F.out.size));have R7:=ae (D1.out.aa D7.out ly);have G7:=ae (G6.out.aa A7.out ly);have aq:w.heap.size+3<=(ZR.alloc (J #[U x.e,N I x.m,N I x.E,U x.B,Z (T (Q A 0 Y)) x.f z,Z (T (Q s 0 Y)) x.b t] 46)).heap.size:=p7 P D7.out.size;go_wp2_with (at_builtin;refine BS _ rfl (.tmp 29) (.tmp 31) 35 rfl (w.heap.size+3) 46 mv (ZH #[U ⟨#[]⟩,N I 0,N I 0,U ⟨#[]⟩,Z Y 0 0,Z Y 0 0]) 6 96 PF hj ro n9 th rfl (by decide) (Z ao R.length co) R.length (R.flatMap ddV) (by simp[Act.eval]) R7.out.i (Q ZR.heap.size 0 Y) 1 1 (ddV (x,Z (T (Q A 0 Y)) x.f z,Z (T (Q s 0 Y)) x.b t)) (by simp[Act.eval]) rfl (Ji ZR _ _ _ _ _ _ _) (by simp[ddV,Value.oneCell']) (by unfold maxLen;omega) (by omega) aq ?_;intro v' w8 m q C;obtain⟨gs,cs,rfl⟩:=cC m (by omega);have E8:=ae (bg (dB (w.heap.size+3) _) q aq (λj e=>(R7.out.i.lt j e).1));have M8:=ae (D1.out.more R7.out P G7.out m q);have X8:=ae ((X6.out.aa A7.out X6.out.size).aa E8.out ly);have B8:=ae ((ZK.out.trans (D7.out.mono ZK.out.size)).trans (E8.out.mono (by omega)));obtain⟨k0,k1⟩:=X8.out.o;clear m q C);have M9:=ae (M8.out.set (p:=(Q (w.heap.size+1+1) 0 Y)) (e:=0) (.inl (by show w.heap.size+1+1<w.heap.size+3;omega)) (Z (T (Q gs 0 Y)) (R.length+1) cs));go_roundg (n - 1 - k);case measure=>omega
   case rel =>refine⟨k+1,Z (T (Q gs 0 Y)) (R.length+1) cs,R++[(x,Value.slice (T (Q A 0 Y)) x.f z,Value.slice (T (Q s 0 Y)) x.b t)],by omega,by go_num,X8.out.out _,M9.out,?_,λr S=>(p8.1 S).elim (la.out r) (λh=>by rw[nD.1 h];exact⟨⟨_,_,rfl⟩,_,_,rfl⟩),B8.out.setCell (by show w.heap.size<=w.heap.size+2;omega) _⟩;show _=_;rw[fd.out,DN,HE.out];rfl
  ·have e:k=n:=by omega
   subst e;obtain⟨r0,z0⟩:=ZN.out.r;obtain⟨o0,_⟩:=ZN.out.o;go_wp2;exact bp (v:=ZH #[Z ao R.length co]) (by simp[results,results64,go_sem,r0]) rfl ⟨ao,co,R,rfl,D1.out.set (e:=0) (.inl (by show w.heap.size+1<w.heap.size+3;omega)) _,HE.out,la.out,ZK.out.setCell (by show w.heap.size<=w.heap.size+1;omega) _⟩
structure FitD (x:Deed):Prop where
 nm:x.e.size<=5000
 tx:x.B.size<=5000
 an:x.f<=300
 asz:∀j,j<x.f->(x.H j).s.size<=5000
 ln:x.b<=300
 lsz:∀j,j<x.b->(x.D j).e.size<=5000
theorem FitD.fits (h:FitD x):cV x:=⟨by have:=h.an;omega,by have:=h.ln;omega⟩
theorem FitD.sized (h:FitD x):fk x:=by
 have h1:=h.nm;have h2:=h.tx;have h3:=h.an;have h5:=h.ln;refine⟨by unfold maxLen;omega,by unfold maxLen;omega,⟨by omega,λj b=>?_⟩,⟨by omega,λj b=>?_⟩⟩;{have:=h.asz j b;unfold maxLen;omega};{have:=h.lsz j b;unfold maxLen;omega}
structure FitK (K:Nat)(x:Deed):Prop where
 nm:x.e.size<=5000
 tx:x.B.size<=2000+K
 an:x.f<=200+K
 asz:∀j,j<x.f->(x.H j).s.size<=5000
 ln:x.b<=200+K
 lsz:∀j,j<x.b->(x.D j).e.size<=5000
theorem FitK.d (h:FitK K x)(hK:K<=90):FitD x:=⟨h.nm,by have:=h.tx;omega,by have:=h.an;omega,h.asz,by have:=h.ln;omega,h.lsz⟩
theorem FitK.up{L:Nat}(h:FitK K x)(hK:K<=L):FitK L x:=⟨h.nm,by have:=h.tx;omega,by have:=h.an;omega,h.asz,by have:=h.ln;omega,h.lsz⟩
theorem IF:FitK K fB:=⟨by decide,by show 0<=2000+K;omega,E4 _,λj b=>absurd b (by simp[fB]),E4 _,λj b=>absurd b (by simp[fB])⟩
theorem An:FitD fB:=⟨by decide,by decide,by decide,λj b=>absurd b (by simp[fB]),by decide,λj b=>absurd b (by simp[fB])⟩
theorem oM{s:ByteArray}(h:aw s=true):s.size<=60:=by unfold aw at h;rw[zA,z8] at h;exact h.1.2
theorem FW (S:Spc)(nm:ByteArray):∀x∈iu S (ci S nm).1,FitD x/\x.B.size<=2000/\x.f<=200/\x.b<=200:=by
 obtain⟨q,_,g⟩:=qD S nm;intro x y;obtain⟨e,l,rfl⟩:=QX.1 y;have c:=q.ents e l;have t:=g (List.ne_nil_of_mem l);have h1:=oM c.nm;have h2:=c.tx;have h3:=c.looks;have m:(iX S (ci S nm).1 e).b=e.looks.length:=rfl;have o:(iX S (ci S nm).1 e).f=fy S e:=rfl;have n:fy S e=0∨valid (S.f1 e.tg).H (S.f1 e.tg).f=true/\fy S e=(S.f1 e.tg).f:=by
  rcases c.m with ⟨b,_⟩|⟨b,_⟩|⟨b,_,p⟩
  {exact .inl (by unfold fy;rw[gM (by omega)])};{exact .inl (by unfold fy;rw[gM (by omega)])};{refine .inr ⟨t.H _ (cW p).1,?_⟩;unfold fy;rw[p6 b]}
 have hn:fy S e<=200:=by
  rcases n with h|⟨h,u⟩
  {omega};{have:=(bP h).2.2;omega}
 have r:∀j,j<fy S e->((S.f1 e.tg).H j).s.size<=5000:=by
  intro j f;rcases n with h|⟨h,u⟩
  {omega}
  ·have b:=gR (bP h).1 (show j<_ by omega);unfold aH at b;rw[z8] at b;have hm:aE ((S.f1 e.tg).H j).op<=2000:=by unfold aE;split<;>omega
   omega
 have i:∀j,j<e.looks.length->(lkF (ci S nm).1 e.looks j).e.size<=5000:=by intro j f;rw[Ct (gq f)];have:=oM (c.lname _ (gz f));show(e.looks[j]).e.size<=5000;omega
 exact⟨⟨by show e.e.size<=_;omega,by show e.B.size<=_;omega,by rw[o];omega,r,by rw[m];omega,i⟩,h2,by rw[o];exact hn,by rw[m];exact h3⟩
structure HAc (base:Nat)(w:M)(a:Option Addr)(n c:Nat)(f:Nat->Deed):Prop where
 sl:∀V,Agr base w V->SlDeed V a n f
 cap:n<=c
 hn:n<=50000
 ak:∀i,i<n->FitD (f i)
theorem HAc.agr (h:HAc b w a n c f)(i:Agr b w V):HAc b V a n c f:=⟨λZL g=>h.sl ZL (i.trans g),h.cap,h.hn,h.ak⟩
theorem HAc.mono (h:HAc b w a n c f)(hb:g<=b):HAc g w a n c f:=⟨λZL i=>h.sl ZL (i.mono hb),h.cap,h.hn,h.ak⟩
theorem HAc.here (h:HAc b w a n c f):SlDeed w a n f:=h.sl w (Agr.refl _ _)
theorem DSub.agr (h:DSub w b r)(c:Agr b w V):DSub V b r:=⟨iL h.H c,iL h.V c⟩
theorem DRow.agr{v:ZC}(h:DRow w b v R)(c:Agr b w V):DRow V b v R:=⟨iL h.i c,λr f=>(h.sub r f).agr c,h.up⟩
theorem j6{size:Nat}{e:TypeId}{j:List ZC}(h:w.ownsRow b e size (Z a n c) i j):n<=c:=by
 rcases h.2 with ⟨f,h0⟩|⟨g,cap,cur,f,hb,hg,hc,_⟩
 {simp only[OJ] at f;omega};{simp only[OJ] at f;omega}
theorem JM (h:DRow w b (Z a R.length c) R)(f:∀r∈R,FitD r.1)(hn:R.length<=50000):HAc b w a R.length c (dF (R.map (·.1))):=by refine⟨λV g=>(h.agr g).am,j6 h.i,hn,λi hi=>?_⟩;obtain⟨r,j,l⟩:=cZ hi;rw[gv j];exact f r l
def DA (w:M)(R q:Nat)(e:Ending)(b:M):Prop:=∃(a:Option Addr) (n c:Nat) (f:Nat->Deed),e=ZF (ZH #[Z a n c])/\HAc w.heap.size b a n c f/\∃q':Nat,q'<=q/\Rd b R q'/\Only R w b
def DAK (K:Nat)(w:M)(R q:Nat)(e:Ending)(b:M):Prop:=∃(a:Option Addr) (n c:Nat) (f:Nat->Deed),e=ZF (ZH #[Z a n c])/\HAc w.heap.size b a n c f/\(∃q':Nat,q'<=q/\Rd b R q'/\Only R w b)/\n<=450+K/\∀i,i<n->FitK K (f i)
theorem kM {c:Type}(g:c->List ZC)(C:Nat)(b:∀x,(g x).length=C){j:Nat}(i:j<C){x y:c}{u:ZC}(f:g y=(g x).set j u):∀(L:List c) (k:Nat),L[k]?=T x->(L.flatMap g).set (k*C+j) u=(L.set k y).flatMap g
 |[],k,h=>by simp at h
 |z::L,0,h=>by
  obtain rfl:z=x:=by simpa using h
  simp only[KK,List.set_cons_zero,WQ,FM];rw[WF _ _ (by rw[b];exact i),f]
 |z::L,k+1,h=>by
  have l:L[k]?=T x:=by simpa using h
  have e:(k+1)*C+j - C=k*C+j:=by rw[Nat.add_mul];omega
  simp only[KK,U0];rw[SN _ _ (by rw[b,Nat.add_mul];omega),b,e,kM g C b i f L k l]
structure DRw (w:M)(base:Nat)(v:ZC)(R:List DR):Prop where
 i:w.ownsRow base 46 6 v R.length (R.flatMap ddV)
 sub:∀r∈R,DSub w base r
theorem DRow.rw{v:ZC}(h:DRow w b v R):DRw w b v R:=⟨h.i,h.sub⟩
theorem DRw.agr{v:ZC}(h:DRw w b v R)(c:Agr b w V):DRw V b v R:=⟨iL h.i c,λr f=>(h.sub r f).agr c⟩
theorem DRw.mono{base':Nat}{v:ZC}(h:DRw w b v R)(hb:base'<=b):DRw w base' v R:=⟨aB h.i hb,λr c=>(h.sub r c).mono hb⟩
theorem DRw.aa{f:M}{B:Nat}{v:ZC}(h:DRw w b v R)(hb:Below B w f)(c:w.heap.size<=B):DRw f b v R:=⟨own_below h.i hb c,λr g=>(h.sub r g).aa hb c⟩
theorem DRw.am (h:DRw w b (Z a R.length c) R):SlDeed w a R.length (dF (R.map (·.1))):=by
 by_cases hz:R.length=0;{exact .inl hz}
 ·obtain⟨g,c',e⟩:=cC h.i (by omega);cases e
  refine .inr ⟨g,0,rfl,(dN h.i).2,λi hi=>?_⟩;obtain⟨r,l,f⟩:=cZ hi;rw[gv l];have c:∀j,j<6->∀u,(ddV r)[j]?=T u->w.cell? (Q g (0+i*6+j) Y)=T u:=λj o u m=>by rw[show 0+i*6+j=i*6+j by omega];exact(cR h.i l j o m).1
  obtain⟨n,c4,p,h4⟩:=(h.sub r f).ins;obtain⟨t,c5,s,q⟩:=(h.sub r f).D;exact⟨c 0 (by omega) _ rfl,c 1 (by omega) _ rfl,c 2 (by omega) _ rfl,c 3 (by omega) _ rfl,⟨n,c4,by rw[<-p];exact c 4 (by omega) _ rfl,h4⟩,⟨t,c5,by rw[<-s];exact c 5 (by omega) _ rfl,q⟩⟩
theorem vL (h:DRw w b (Z a n c) R)(e:n=R.length)(f:∀r∈R,FitD r.1)(hn:R.length<=50000):HAc b w a n c (dF (R.map (·.1))):=by subst e;refine⟨λV g=>(h.agr g).am,j6 h.i,hn,λi hi=>?_⟩;obtain⟨r,j,l⟩:=cZ hi;rw[gv j];exact f r l
theorem DSub.put{f:Array ZC}{fz:Nat × Nat}(h:DSub w b r)(c:w.heap[g]?=T (J f 46 fz))(u:ZC):DSub (w.setCell (Q g j Y) u) b r :=
 ⟨iw h.H c (by decide) u,iw h.V c (by decide) u⟩
theorem DRw.fld{k:Nat}(h:DRw w b (Z (T (Q g 0 Y)) n c) R)(e:n=R.length)(p:R[k]?=T r)(o:j<6)(q:ddV r'=(ddV r).set j u)(s:DSub w b r'):DRw (w.setCell (Q g (k*6+j) Y) u) b (Z (T (Q g 0 Y)) n c) (R.set k r'):=by
 subst e;obtain⟨cs,z,l⟩:=bu h.i g rfl;have i:=nG (j:=k*6+j) h.i u;rw[kM ddV 6 (λ_=>rfl) o q R k p] at i;refine⟨by rw[LB];exact i,λm f=>?_⟩;rcases PI f with h2|rfl;{exact(h.sub m h2).put l u};{exact s.put l u}
theorem lG{P:Deed->Prop}{k:Nat}(h:∀r∈R,P r.1)(c:P r'.1):∀r∈R.set k r',P r.1:=λr b=>by
 rcases PI b with h2|rfl
 ·exact h r h2
 ·exact c
variable {K:Nat}
structure SpS (K:Nat)(w:M)(R X:Nat)(W:M)(q:Nat)(a:Option Addr)(c:Nat)(D:List DR):Prop where
 rd:Rd W R q
 o:Only R w W
 rs:W.heap[w.heap.size+1]?=T (J #[Z Y 0 0] 37 (0,0))
 bx:W.heap[X]?=T (J #[Z a D.length c] 37 (0,0))
 row:DRw W (w.heap.size+2) (Z a D.length c) D
 ak:∀r∈D,FitK K r.1
 lo:R<w.heap.size
 hX:w.heap.size+2<=X
 num:D.length<=450+K
section
variable {w W W':M}{R X q q' c g k j:Nat}{a:Option Addr}{D:List DR}{r r':DR}{u:ZC}
theorem SpS.lt (h:SpS K w R X W q a c D):X<W.heap.size:=ag h.bx
theorem SpS.G (h:SpS K w R X W q a c D)(b:Only R W W')(hR:Rd W' R q'):SpS K w R X W' q' a c D:=by have hl:=h.lo;have hx:=h.hX;exact⟨hR,h.o.trans b,(b.block _ (ag h.rs) (by omega)).trans h.rs,(b.block _ h.lt (by omega)).trans h.bx,h.row.agr (b.agr (by omega)),h.ak,h.lo,h.hX,h.num⟩
theorem SpS.aa (h:SpS K w R X W q a c D)(b:Below W.heap.size W W'):SpS K w R X W' q a c D:=h.G (Only.u b) (h.rd.aa b ly)
theorem SpS.ab (h:SpS K w R X W q a c D):W.cell? (Q X 0 Y)=T (Z a D.length c)/\W.frozen? (Q X 0 Y)=ZA:=by
 have hb:=h.bx;constructor;{simp[World.cell?,hb]};{simp[World.frozen?,hb]}
theorem SpS.L (h:SpS K w R X W q (T (Q g 0 Y)) c D)(f:D[k]?=T r)(i:j<6)(b:(ddV r)[j]?=T u):W.cell? (Q g (k*6+j) Y)=T u/\W.frozen? (Q g (k*6+j) Y)=ZA:=cR h.row.i f j i b
theorem SpS.gb (h:SpS K w R X W q (T (Q g 0 Y)) c D):w.heap.size+2<=g/\g<W.heap.size/\g≠X/\∃b z,W.heap[g]?=T (J b 46 z):=by obtain⟨b,z,f⟩:=bu h.row.i g rfl;obtain⟨h1,h2⟩:=dN h.row.i;refine⟨h1,h2,λe=>?_,b,z,f⟩;rw[e,h.bx] at f;simp at f
theorem SpS.put (h:SpS K w R X W q (T (Q g 0 Y)) c D){b:List DR}(hn:b.length=D.length)(i:DRw (W.setCell (Q g j Y) u) (w.heap.size+2) (Z (T (Q g 0 Y)) D.length c) b)(f:∀r∈b,FitK K r.1):SpS K w R X (W.setCell (Q g j Y) u) q (T (Q g 0 Y)) c b:=by
 obtain⟨h1,h2,h3,cs,z,hg⟩:=h.gb;have hl:=h.lo;have B:=(dB (w.heap.size+2) W).setCell (p:=(Q g j Y)) h1 u;refine⟨h.rd.low B (by omega),h.o.then (B.mono (by omega)),(B.block _ (by omega)).trans h.rs,?_,?_,f,h.lo,h.hX,by rw[hn];exact h.num⟩;{rw[hn];exact(qh _ _ _ _ (λe=>h3 e.symm)).trans h.bx};{rw[hn];exact i}
theorem SpS.fld (h:SpS K w R X W q (T (Q g 0 Y)) c D)(f:D[k]?=T r)(i:j<6)(m:ddV r'=(ddV r).set j u)(l:DSub W (w.heap.size+2) r')(b:FitK K r'.1):SpS K w R X (W.setCell (Q g (k*6+j) Y) u) q (T (Q g 0 Y)) c (D.set k r') :=
 h.put LB (h.row.fld rfl f i m l) (lG h.ak b)
end
theorem SpS.fin{R:Nat}(h:SpS K w R X W q a c D)(f:K<=90)(l:q<=ZN):DAK K w R ZN (ZF (ZH #[Z a D.length c])) (W.setCell (Q (w.heap.size+1) 0 Y) (Z a D.length c)):=by
 have hl:=h.lo;have B:=(dB w.heap.size W).setCell (p:=(Q (w.heap.size+1) 0 Y)) (F6 _) (Z a D.length c);have j:Agr (w.heap.size+2) W (W.setCell (Q (w.heap.size+1) 0 Y) (Z a D.length c)):=⟨by simp,λk h1 _=>qh _ _ _ _ (by show k≠w.heap.size+1;omega)⟩
 exact⟨a,D.length,c,_,rfl,(vL (h.row.agr j) rfl (λr b=>(h.ak r b).d f) (by have:=h.num;omega)).mono (by omega),⟨q,l,h.rd.low B h.lo,h.o.then B⟩,h.num,λi hi=>by
  obtain⟨r,b,g⟩:=cZ hi;rw[gv b]
  exact h.ak r g⟩
def FitI (x:Deed):Prop:=FitD x/\x.B.size<=2000/\x.f<=200/\x.b<=200
theorem FitI.k (h:FitI x):FitK K x:=⟨h.1.nm,by have:=h.2.1;omega,by have:=h.2.2.1;omega,h.1.asz,by have:=h.2.2.2;omega,h.1.lsz⟩
theorem FitK.m (h:FitK K x)(z:Int):FitK K { x with m:=z }:=⟨h.nm,h.tx,h.an,h.asz,h.ln,h.lsz⟩
theorem FitK.E (h:FitK K x)(z:Int):FitK K { x with E:=z }:=⟨h.nm,h.tx,h.an,h.asz,h.ln,h.lsz⟩
theorem FitK.B (h:FitK K x)(b:t.size<=2000+K):FitK K { x with B:=t }:=⟨h.nm,b,h.an,h.asz,h.ln,h.lsz⟩
theorem FitK.e (h:FitK K x)(b:t.size<=5000):FitK K { x with e:=t }:=⟨b,h.tx,h.an,h.asz,h.ln,h.lsz⟩
theorem DSub.same (h:DSub w b r)(y:Deed)(i:y.f=r.1.f)(f:y.H=r.1.H)(c:y.b=r.1.b)(g:y.D=r.1.D):DSub w b (y,r.2):=by
 refine⟨?_,?_⟩;{show w.ownsRow b 151 3 r.2.1 y.f (bJ y.H y.f);rw[i,f];exact h.H};{show w.ownsRow b 91 4 r.2.2 y.b (bq y.D y.b);rw[c,g];exact h.V}
def jt (W:M)(g k:Nat)(r:DR):M:=(((((W.setCell (Q g (k*6) Y) (U r.1.e)).setCell (Q g (k*6+1) Y) (N I r.1.m)).setCell (Q g (k*6+2) Y) (N I r.1.E)).setCell (Q g (k*6+3) Y) (U r.1.B)).setCell (Q g (k*6+4) Y) r.2.1).setCell (Q g (k*6+5) Y) r.2.2
theorem jK{k:Nat}(h:W.ownsRow b 46 6 (Z (T (Q g 0 Y)) n c) n ((D.set k r).flatMap ddV))(i:k<D.length)(m:j<6)(l:ddV r'=(ddV r).set j u):(W.setCell (Q g (k*6+j) Y) u).ownsRow b 46 6 (Z (T (Q g 0 Y)) n c) n ((D.set k r').flatMap ddV):=by have f:=nG (j:=k*6+j) h u;rw[kM ddV 6 (λ_=>rfl) m l (D.set k r) k (by rw[P7 i]),VN] at f;exact f
theorem vM{k:Nat}(r':DR)(h:W.ownsRow b 46 6 (Z (T (Q g 0 Y)) n c) n (D.flatMap ddV))(o:D[k]?=T r):(jt W g k r').ownsRow b 46 6 (Z (T (Q g 0 Y)) n c) n ((D.set k r').flatMap ddV):=by
 obtain⟨f,m⟩:=n8.1 o;have i:W.ownsRow b 46 6 (Z (T (Q g 0 Y)) n c) n ((D.set k r).flatMap ddV):=by rw[<-m,List.set_getElem_self];exact h
 have h1:=jK (j:=0) (u:=U r'.1.e) (r':=({ r.1 with e:=r'.1.e },r.2)) i f (by omega) rfl;have h2:=jK (j:=1) (u:=N I r'.1.m) (r':=({ r.1 with e:=r'.1.e,m:=r'.1.m },r.2)) h1 f (by omega) rfl;have h3:=jK (j:=2) (u:=N I r'.1.E) (r':=({ r.1 with e:=r'.1.e,m:=r'.1.m,E:=r'.1.E },r.2)) h2 f (by omega) rfl;have h4:=jK (j:=3) (u:=U r'.1.B) (r':=({ r.1 with e:=r'.1.e,m:=r'.1.m,E:=r'.1.E,B:=r'.1.B },r.2)) h3 f (by omega) rfl;have l:=jK (j:=4) (u:=r'.2.1) (r':=({ r.1 with e:=r'.1.e,m:=r'.1.m,E:=r'.1.E,B:=r'.1.B },r'.2.1,r.2.2)) h4 f (by omega) rfl;exact jK (j:=5) (u:=r'.2.2) (r':=r') l f (by omega) rfl
theorem fA (W:M)(g k m:Nat)(r:DR)(h:m≠g):(jt W g k r).heap[m]?=W.heap[m]?:=by unfold jt;repeat rw[qh _ _ _ _ (by show m≠g;exact h)]
theorem qG (W:M)(g k B:Nat)(r:DR)(h:B<=g):Below B W (jt W g k r) :=
 ((((((dB B W).setCell (p:=(Q g (k*6) Y)) h _).setCell (p:=(Q g (k*6+1) Y)) h _).setCell (p:=(Q g (k*6+2) Y)) h _).setCell (p:=(Q g (k*6+3) Y)) h _).setCell (p:=(Q g (k*6+4) Y)) h _).setCell (p:=(Q g (k*6+5) Y)) h _
theorem DSub.far (h:DSub W b r)(f:∀m,r.2.1.ownBlock=T m->OfTy W m 151->W'.heap[m]?=W.heap[m]?)(c:∀m,r.2.2.ownBlock=T m->OfTy W m 91->W'.heap[m]?=W.heap[m]?):DSub W' b r:=⟨bE h.H f,bE h.V c⟩
theorem SpS.ao{R q' k ZK:Nat}(h:SpS K w R X W q (T (Q g 0 Y)) c D)(ZQ:D.Pairwise λa b=>Apt a.2.1 b.2.1/\Apt a.2.2 b.2.2)(ZL:D[k]?=T r)(ZM:r∈D)(L:r.2.2=Z (T (Q o 0 Y)) r.1.b ZK)
  (hR:Rd W' R q') (hO:Only R w W') (keep:∀i,i<W.heap.size->i≠R->i≠o->W'.heap[i]?=W.heap[i]?) (r':DR) (hs:DSub W' (w.heap.size+2) r') (ZJ:FitK K r'.1):SpS K w R X (jt W' g k r') q' (T (Q g 0 Y)) c (D.set k r'):=by
 obtain⟨h1,h2,h3,V,z,ZR⟩:=h.gb;have hlo:=h.lo;have hX:=h.hX;obtain⟨cl2,zl,y⟩:=bu (h.row.sub r ZM).V o (by rw[L];rfl);have hlb:w.heap.size+2<=o:=((h.row.sub r ZM).V.lt o (by rw[L];rfl)).1;have ZN:g≠o:=λe=>by rw[e,y] at ZR;simp at ZR
 have P:X≠o:=λe=>by have:=h.bx;rw[e,y] at this;simp at this
 have S:=keep g h2 (by omega) ZN;have B:=qG W' g k (w.heap.size+2) r' h1;have ZO:W'.ownsRow (w.heap.size+2) 46 6 (Z (T (Q g 0 Y)) D.length c) D.length (D.flatMap ddV):=bE h.row.i λm f _=>by
  obtain rfl:g=m:=by simpa[Value.ownBlock] using f
  exact S
 have hn:(D.set k r').length=D.length:=LB;have O:∀m e,OfTy W m e->e≠91->w.heap.size+2<=m->W'.heap[m]?=W.heap[m]?:=λm e n he hb=>by obtain⟨c0,z0,j⟩:=n;exact keep m (ag j) (by omega) λp=>by rw[p,y] at j;simp at j;exact he j.2.1.symm
 have x:∀s,DSub W' (w.heap.size+2) s->DSub (jt W' g k r') (w.heap.size+2) s:=λs A=>by
  have E:W'.heap[g]?=T (J V 46 z):=S.trans ZR;refine A.far (λm _ n=>fA _ _ _ _ _ λe=>?_) λm _ n=>fA _ _ _ _ _ λe=>?_;{obtain⟨c0,z0,j⟩:=n;rw[e,E] at j;simp at j};{obtain⟨c0,z0,j⟩:=n;rw[e,E] at j;simp at j}
 refine⟨hR.low B (by omega),hO.then (B.mono (by omega)),?_,?_,⟨?_,λs A=>?_⟩,lG h.ak ZJ,h.lo,h.hX,by rw[hn];exact h.num⟩;{exact(B.block _ (by omega)).trans ((keep _ (ag h.rs) (by omega) (by omega)).trans h.rs)};{rw[hn];exact(fA _ _ _ _ _ (λe=>h3 e.symm)).trans ((keep X h.lt (by omega) P).trans h.bx)};{rw[hn];exact vM r' ZO ZL}
 ·obtain⟨i,hi⟩:=RK A;by_cases e:i=k;{subst e;rw[P7 (by rw[<-hn];exact(n8.1 hi).1)] at hi;obtain rfl:=BC hi;exact x _ hs}
  ·rw[QU (λp=>e p.symm)] at hi;have t:=LD hi;refine x s ((h.row.sub s t).far (λm f n=>O m _ n (by decide) ((h.row.sub s t).H.lt m f).1) (λm f n=>?_));obtain⟨c0,z0,j⟩:=n;have hb:=((h.row.sub s t).V.lt m f).1;refine keep m (ag j) (by omega) λp=>?_;obtain⟨ZP,H⟩:=n8.1 hi;obtain⟨F,G⟩:=n8.1 ZL;have u:r.2.2.ownBlock=T o:=by rw[L];rfl
   rcases Nat.lt_or_gt_of_ne e with C|C;{have:=(PV.1 ZQ i k ZP F C).2;rw[H,G] at this;rcases this with l|l;{rw[f] at l;cases l};{exact l (by rw[f,u,p])}};{have:=(PV.1 ZQ k i F ZP C).2;rw[H,G] at this;rcases this with l|l;{rw[u] at l;cases l};{exact l (by rw[f,u,p])}}
theorem SpS.actK{R t:Nat}(h:SpS K w R X W q (T (Q g 0 Y)) c D)(f:r∈D)(s:r.2.1=Z (T (Q n 0 Y)) r.1.f o)(p:r.2.2=Z (T (Q j 0 Y)) r.1.b t)(keep:∀i,i<W.heap.size->i≠R->i≠j->W'.heap[i]?=W.heap[i]?):W'.ownsRow (w.heap.size+2) 151 3 (Z (T (Q n 0 Y)) r.1.f o) r.1.f (bJ r.1.H r.1.f):=by have hlo:=h.lo;obtain⟨cl2,zl,l⟩:=bu (h.row.sub r f).V j (by rw[p];rfl);rw[<-s];refine bE (h.row.sub r f).H λm h1 h2=>?_;obtain⟨c0,z0,b⟩:=h2;have hb:=((h.row.sub r f).H.lt m h1).1;exact keep m (ag b) (by omega) (λe=>by rw[e,l] at b;simp at b)
theorem SpS.kept{R:Nat}(h:SpS K w R X W q (T (Q g 0 Y)) c D)(n:r∈D)(m:r.2.2=Z (T (Q j 0 Y)) r.1.b o)(keep:∀i,i<W.heap.size->i≠R->i≠j->W'.heap[i]?=W.heap[i]?):W'.heap[X]?=W.heap[X]?/\W'.heap[g]?=W.heap[g]?/\g<W'.heap.size:=by obtain⟨h1,h2,h3,cs,z,f⟩:=h.gb;have hlo:=h.lo;have hX:=h.hX;obtain⟨cl2,zl,b⟩:=bu (h.row.sub r n).V j (by rw[m];rfl);have l:=keep g h2 (by omega) (λe=>by rw[e,b] at f;simp at f);exact⟨keep X h.lt (by omega) (λe=>by have:=h.bx;rw[e,b] at this;simp at this),l,ag (l.trans f)⟩
theorem SpS.six{R k:Nat}(h:SpS K w R X W q (T (Q g 0 Y)) c D)(t:D[k]?=T r)(r':DR)(u:DSub W (w.heap.size+2) r')(p:FitK K r'.1):SpS K w R X (jt W g k r') q (T (Q g 0 Y)) c (D.set k r'):=by
 obtain⟨h1,h2,h3,cs,z,l⟩:=h.gb;have hlo:=h.lo;have B:=qG W g k (w.heap.size+2) r' h1;have hn:(D.set k r').length=D.length:=LB;have f:∀s,DSub W (w.heap.size+2) s->DSub (jt W g k r') (w.heap.size+2) s:=λs i=>by
  refine i.far (λm _ j=>fA _ _ _ _ _ λe=>?_) λm _ j=>fA _ _ _ _ _ λe=>?_;{obtain⟨c0,z0,b⟩:=j;rw[e,l] at b;simp at b};{obtain⟨c0,z0,b⟩:=j;rw[e,l] at b;simp at b}
 refine⟨h.rd.low B (by omega),h.o.then (B.mono (by omega)),(B.block _ (by omega)).trans h.rs,?_,⟨?_,λs i=>?_⟩,lG h.ak p,h.lo,h.hX,by rw[hn];exact h.num⟩;{rw[hn];exact(fA _ _ _ _ _ (λe=>h3 e.symm)).trans h.bx};{rw[hn];exact vM r' h.row.i t};{rcases PI i with n|rfl;{exact f s (h.row.sub s n)};{exact f _ u}}
theorem DSub.av{f:Nat}(h:DSub w b r)(l:r.2.1=Z (T (Q c 0 Y)) r.1.f f)(j:r.2.2=Z (T (Q i 0 Y)) r.1.b g):DSub w b (r.1,Z (T (Q c 0 Y)) r.1.f f,Z (T (Q i 0 Y)) r.1.b g):=by rw[<-l,<-j];exact h
theorem DSub.six{k:Nat}{s:DR}{j:Array ZC}{z:Nat × Nat}(h:DSub W c s)(i:W.heap[g]?=T (J j 46 z)):DSub (jt W g k r') c s:=by
 refine h.far (λm _ f=>fA _ _ _ _ _ λe=>?_) λm _ f=>fA _ _ _ _ _ λe=>?_;{obtain⟨c0,z0,b⟩:=f;rw[e,i] at b;simp at b};{obtain⟨c0,z0,b⟩:=f;rw[e,i] at b;simp at b}
variable {K:Nat}
def noR:DR:=(fB,Z Y 0 0,Z Y 0 0)
theorem FX (n i:Nat)(h:i<n*6):(dx n)[i]?=(ddV noR)[i % 6]?:=by
 have e:(dx n)[i]?=T ((Value.agg #[U ⟨#[]⟩,N I 0,N I 0,U ⟨#[]⟩,Z Y 0 0,Z Y 0 0]).cells[i % 6]!):=by unfold dx madeCells;simp[h];rfl
 rw[e];have b:i % 6<6:=T8 _ (by omega);generalize i % 6=j at b;rcases(show j=0∨j=1∨j=2∨j=3∨j=4∨j=5 by omega) with rfl|rfl|rfl|rfl|rfl|rfl<;>rfl
theorem Ao (n:Nat):(dx n).toList=(List.replicate n noR).flatMap ddV:=by
 refine T3 λi=>?_;by_cases h:i<n*6
 ·have e:i=i / 6*6+i % 6:=by omega
  rw[L8,FX n i h];conv=>rhs;rw[e]
  rw[du ddV 6 (λ_=>rfl) _ (i / 6) (i % 6) (by omega) noR (by rw[List.getElem?_replicate,p6 (by omega)])]
 {have hz:(dx n).size=n*6:=size_madeCells _ _;rw[OT (by rw[QB,hz];omega),OT (by rw[eX ddV 6 (λ_=>rfl),SS];omega)]}
theorem Dl (w:M)(b n:Nat)(hb:b<=w.heap.size)(hn:n<=1000):DRw (w.alloc (J (dx n) 46)) b (Z (T (Q w.heap.size 0 Y)) n n) (List.replicate n noR):=by
 have hz:(dx n).size=n*6:=size_madeCells _ _;have c:((List.replicate n noR).flatMap ddV).length=n*6:=by rw[eX ddV 6 (λ_=>rfl),SS]
 refine⟨?_,λr f=>?_⟩;{rw[SS];refine⟨c,.inr ⟨w.heap.size,n,dx n,rfl,hb,nL w _,n6 _,by unfold maxLen;omega,hz,?_⟩⟩;rw[<-Ao,IU (by rw[QB,hz];omega)]};{rw[List.eq_of_mem_replicate f];exact⟨A9 _ _ _ _,A9 _ _ _ _⟩}
theorem Dm{R m:Nat}(h:SpS K w R X W q a c D)(hm:m<=450)(f:q<=ZN):DAK K w R ZN (ZF (ZH #[Z (T (Q W.heap.size 0 Y)) m m])) ((W.setCell (Q (w.heap.size+1) 0 Y) (Z (T (Q W.heap.size 0 Y)) m m)).alloc (J (dx m) 46)):=by
 have hl:=h.lo;have hx:=h.lt;have hX:=h.hX;have hz:(W.setCell (Q (w.heap.size+1) 0 Y) (Z (T (Q W.heap.size 0 Y)) m m)).heap.size=W.heap.size:=by simp
 have B:=((dB w.heap.size W).setCell (p:=(Q (w.heap.size+1) 0 Y)) (F6 _) (Z (T (Q W.heap.size 0 Y)) m m)).alloc (by rw[hz];omega) (J (dx m) 46);have b:=Dl (W.setCell (Q (w.heap.size+1) 0 Y) (Z (T (Q W.heap.size 0 Y)) m m)) w.heap.size m (by rw[hz];omega) (by omega);rw[hz] at b
 exact⟨T (Q W.heap.size 0 Y),m,m,_,rfl,vL b (by rw[SS]) (λr b=>by rw[List.eq_of_mem_replicate b];exact An) (by rw[SS];omega),⟨q,f,h.rd.low B h.lo,h.o.then B⟩,by omega,λi hi=>by
  rw[gv (r:=noR) (by rw[List.getElem?_replicate,p6 hi])]
  exact IF⟩
theorem SpS.box_{R:Nat}{i:Option Addr}{b:List DR}(h:SpS K w R X W q a c D)(t:Below W.heap.size W W')(l:W'.ownsRow (w.heap.size+2) 46 6 (Z i b.length j) b.length (b.flatMap ddV))(C:∀r∈b,DSub W' (w.heap.size+2) r)(x:∀r∈b,FitK K r.1)(hn:b.length<=450+K):SpS K w R X (W'.setCell (Q X 0 Y) (Z i b.length j)) q i j b:=by
 have g:=h.aa t;have hX:=h.hX;have hlo:=h.lo;have B:=(dB (w.heap.size+2) W').setCell (p:=(Q X 0 Y)) hX (Z i b.length j);have far:∀m,m≠X->(W'.setCell (Q X 0 Y) (Z i b.length j)).heap[m]?=W'.heap[m]?:=λm u=>qh _ _ _ _ u;have n:∀m e,OfTy W' m e->e≠37->m≠X:=λm e f y A=>by obtain⟨c0,z0,s⟩:=f;have:=g.bx;rw[<-A,s] at this;simp at this;exact y this.2.1
 refine⟨g.rd.low B (by omega),g.o.then (B.mono (by omega)),(B.block _ (by omega)).trans g.rs,?_,⟨bE l λm _ f=>far m (n m _ f (by decide)),λr z=>(C r z).far (λm _ f=>far m (n m _ f (by decide))) (λm _ f=>far m (n m _ f (by decide)))⟩,x,h.lo,h.hX,hn⟩;exact bX g.bx _
theorem Ap{base k:Nat}(hk:k<D.length)(hc:D.length<=c):∃i:Addr,(if c=k+1 then T ((Q g 0 Y):Addr) else T ⟨g,(k+1)*6,Y⟩)=T i /\
  ∀V:M,V.ownsRow base 46 6 (Z (T (Q g 0 Y)) D.length c) D.length (D.flatMap ddV)->∀j u,((D.drop (k+1)).flatMap ddV)[j]?=T u->V.cell? (i.add j)=T u:=by
 by_cases h:c=k+1;{refine⟨(Q g 0 Y),by rw[p6 h],λV f j u b=>?_⟩;rw[VL (by omega)] at b;simp at b}
 ·refine⟨⟨g,(k+1)*6,Y⟩,by rw[gM h],λV f j u b=>?_⟩
  have h1:=f.cells (g:=g) rfl ((k+1)*6+j) u (by
   have e:D.flatMap ddV=(D.take (k+1)).flatMap ddV++(D.drop (k+1)).flatMap ddV:=by rw[<-BO,PQ]
   have l:((D.take (k+1)).flatMap ddV).length=(k+1)*6:=by rw[eX ddV 6 (λ_=>rfl),OR,Q3 (by omega)]
   rw[e,IX (by omega),l,Nat.add_sub_cancel_left]
   exact b)
  rw[jd] at h1 ⊢;rwa[FM] at h1
theorem Dn (k:Nat)(h:V.ownsRow b 46 6 (Z (T (Q g 0 Y)) D.length c) D.length (D.flatMap ddV)):∀j u,((D.take k).flatMap ddV)[j]?=T u->V.cell? (((Q g 0 Y):Addr).add j)=T u:=by
 intro j u f;refine h.cells (g:=g) rfl j u ?_;have e:D.flatMap ddV=(D.take k).flatMap ddV++(D.drop k).flatMap ddV:=by rw[<-BO,PQ]
 rw[e,OP (n8.1 f).1];exact f
theorem rM (D:List DR)(h:∀r∈D,Som r):∀u∈D.flatMap ddV,u.oneCell'=true:=by intro u f;obtain⟨r,i,b⟩:=P9.1 f;obtain⟨⟨g,c,l⟩,g',c',j⟩:=h r i;simp only[ddV,l,j,AT,nj,RC] at b;rcases b with rfl|rfl|rfl|rfl|rfl|rfl<;>rfl
