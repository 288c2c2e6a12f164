import Derived.Test.YtoddkejemcbkmaaGreatDoorQO
import Derived.Test.YtoddkejemcbkmaaGreatDoorQN
set_option maxRecDepth 100000
set_option maxHeartbeats 8000000
open Go renaming Addr.mk->Q,Value.slice->Z,Value.string->U,Value.int->J,Obj.cells->N,IntKind.i64->I,World->M,Value->ZC,Ending.returned->ZF
open Option renaming none->Y,some->T
open Bool renaming false->ZA
namespace Go.Proofs.YtoddkejemcbkmaaGreatDoor.Vp
open Tryz RowKit Ca
variable {b n c K g j ZM o m:Nat}{w V:M}{R:List DR}{x:Deed}{a:Option Addr}{f:Nat->Deed}{r r':DR}{t:ByteArray}
def Som (r:DR):Prop:=(∃g c,r.2.1=Z (T (Q g 0 Y)) r.1.f c)/\∃g c,r.2.2=Z (T (Q g 0 Y)) r.1.b c
theorem BH (a:Option Addr)(n cap:Nat)(f:Nat->Deed)(w:M)(hn:(n:Int)<=1048576)(hf:SlDeed w a n f)(S:∀i,i<n->dk (f i)):Calls Tryz.prog 76 #[.agg #[Z a n cap]] w λe w'=>∃a c R,e=ZF (.agg #[Z a R.length c])/\DRow w' (w.heap.size+3) (Z a R.length c) R/\R.map (·.1)=(List.range n).map f/\(∀r∈R,Som r)/\Below w.heap.size w w':=by
 have HF:=ae hf;have HM:=ae S;clear hf S;obtain⟨ur,hi,DQ,DE,ph⟩:=LY fZ;obtain⟨Bk,hj,mv,th,At⟩:=LY eu;obtain⟨W0,E⟩:∃W:M,((w.alloc (N #[Z a n cap] 25)).alloc (N #[Z Y 0 0] 25)).alloc (N #[Z Y 0 0] 25)=W:=⟨_,rfl⟩
 obtain⟨A0,-,-,-,-⟩:=nb3 E;have ZK:=ae E;clear E;have X0:=ae (Hs w (Z a n cap) 25);go_enter func76,ntmps76;go_wp2;rw[ZK.out] at X0 ⊢;clear ZK;go_loopg [4] n (λg i wr=>∃(k:Nat) (vo:ZC) (R:List DR),k+g=n/\i=J I k/\Hid (CpB wr w.heap.size (Z a n cap) vo)/\Hid (DRow wr (w.heap.size+3) vo R)/\Hid (R.map (·.1)=(List.range k).map f)/\Hid (∀r∈R,Som r)/\Hid (Below w.heap.size w wr));case atStart=>exact⟨0,_,[],by omega,rfl,X0.out,dN _ _,rfl,λr O=>absurd O (by simp),A0.out⟩
 case round =>
  clear X0 A0;obtain⟨k,vo,R,hk,rfl,P,X,HE,ld,B1⟩:=hrel;have ca:=P.out.a;have V:=P.out.size;obtain⟨ao,co,rfl⟩:=bK X.out.i;by_cases bt:k<n
  ·have fd:R.length=k:=by have:=AP List.length HE.out;simpa using this
   have HRL:=ae fd;have hR4:(R.length:Int)<=1048576:=by omega
   clear fd;obtain⟨b,off,rfl,D⟩:=(HF.out.aa B1.out ly).resolve_left (by omega);have hbl:=D.1;obtain⟨c0,c1,c2,c3,⟨b0,e0,c4,h4⟩,⟨b1,e1,c5,h5⟩⟩:=D.2 k bt;clear D;obtain⟨DH,n9⟩:=HM.out k bt;have dg:Hid ((List.range (k+1)).map f=(List.range k).map f++[f k]):=by show _=_;rw[MY,BG];rfl
   generalize f k=x at c0 c1 c2 c3 c4 c5 h4 h5 DH n9 dg;obtain⟨W2,H⟩:∃W:M,wr.alloc (N #[U x.e,J I x.E,J I x.B,U x.h,Z b0 x.f e0,Z b1 x.b e1] 62)=W:=⟨_,rfl⟩
   obtain⟨D2,-,-⟩:=nb1 H;have ZP:=ae H;clear H;have S2:=ae (oz wr (U x.e) (J I x.E) (J I x.B) (U x.h) (Z b0 x.f e0) (Z b1 x.b e1) 62);have H4:=ae (h4.aa D2.out ly);have H5:=ae h5;have hz2':wr.heap.size+1=W2.heap.size:=by rw[<-ZP.out];simp
   have ZI:=S2.out.c4.1;clear h4 h5;go_wp2_with fail;rw[ZP.out] at S2 ZI ⊢;clear ZP;clear ca c0 c1 c2 c3 c4 c5 ZI;refine(je b0 x.f e0 x.G _ (by omega) H4.out).mono ?_;rintro e w3 ⟨z,A,rfl,ZL,K⟩;have D3:=ae (D2.out.trans (K.mono (by omega)));have S3:=ae (S2.out.aa K (by omega));have hg0:=(dL ZL).1;obtain⟨ZI,y4⟩:=S3.out.c4;have y:=ae (S3.out.set4 (Z (T (Q z 0 Y)) x.f A));have G:=ae (D3.out.setCell (p:=(Q wr.heap.size 4 Y)) ly (Z (T (Q z 0 Y)) x.f A));have O4:=ae (aP (R:=wr.heap.size) (j:=4) (aC ZL (show wr.heap.size+1<=W2.heap.size by omega)) (by omega) (Z (T (Q z 0 Y)) x.f A));have qr:W2.heap.size<=(w3.setCell (Q wr.heap.size 4 Y) (Z (T (Q z 0 Y)) x.f A)).heap.size:=by simpa using K.size
   have ZJ:=y.out.c5.1;clear ZL K;go_upto_region 7 with fail;generalize World.setCell w3 _ _=l at y G O4 qr ZJ ⊢;clear ZI y4 S3 D3;go_cut [] (λwx=>∃t s,Hid (DBox wx wr.heap.size (U x.e) (J I x.E) (J I x.B) (U x.h) (Z (T (Q z 0 Y)) x.f A) (Z (T (Q t 0 Y)) x.b s))/\Hid (Below wr.heap.size wr wx)/\Hid (wx.ownsRow (wr.heap.size+1) 90 3 (Z (T (Q z 0 Y)) x.f A) x.f (bH x.G x.f))/\Hid (wx.ownsRow (wr.heap.size+1) 93 4 (Z (T (Q t 0 Y)) x.b s) x.b (bo x.m x.b)));case first =>
    have ro:=y.out.lt;cases b1 with
    |none =>
     have ZO:x.b=0:=by
      rcases H5.out with h|⟨_,_,h,_⟩
      {exact h};{cases h}
     have ho:bo x.m x.b=[]:=by rw[ZO];rfl
     have la:=ae ZO;have sm:=ae ho;rw[ZO] at ZJ y;have L:(l.setCell (Q wr.heap.size 5 Y) (Z (T (Q l.heap.size 0 Y)) 0 0)).heap.size=l.heap.size:=by simp
     have OM:=NQ (base:=wr.heap.size+1) (e:=93) (size:=4) (l.setCell (Q wr.heap.size 5 Y) (Z (T (Q l.heap.size 0 Y)) 0 0)) #[] 0 (by rw[L];omega) (by unfold maxLen;omega) rfl;rw[L] at OM;have O5:=ae OM;have A6:=ae ((eL l.heap.size (l.setCell (Q wr.heap.size 5 Y) (Z (T (Q l.heap.size 0 Y)) 0 0))).alloc (by rw[L];exact n8 _) (N #[] 93));have S5:=ae ((y.out.set5 (Z (T (Q l.heap.size 0 Y)) 0 0)).aa A6.out ro);have D5:=ae ((G.out.setCell (p:=(Q wr.heap.size 5 Y)) ly (Z (T (Q l.heap.size 0 Y)) 0 0)).trans (A6.out.mono G.out.size));have P5:=ae (own_below (aP (R:=wr.heap.size) (j:=5) O4.out (by omega) (Z (T (Q l.heap.size 0 Y)) 0 0)) A6.out (by rw[L];exact n8 _));have f5:=y.out.c5.2;clear OM ho ZO;go_wp2;go_meet;exact⟨l.heap.size,0,(by show DBox _ _ _ _ _ _ _ _;rw[la.out];exact S5.out),D5.out,P5.out,(by show World.ownsRow _ _ _ _ _ _ _;rw[sm.out,la.out];exact O5.out)⟩
    |some ad =>
     have A5:=ae ((q9 l).alloc ly (N #[] 93));have R5:Hid (∀j u,(bo x.m x.b)[j]?=T u->(l.alloc (N #[] 93)).cell? (ad.add j)=T u):=by
      rcases((H5.out.aa G.out ly).aa A5.out ly) with h|⟨bb,oo,h,O⟩
      {intro j u hu;rw[h] at hu;simp[bo] at hu};{obtain rfl:=BO h;exact CL O}
     have s5':=(A5.out.cell (p:=(Q wr.heap.size 5 Y)) y.out.lt).trans ZJ;go_wp2_with (at_builtin;refine BS _ rfl (.tmp 23) (.tmp 25) 60 rfl l.heap.size 93 ur (.agg #[U ⟨#[]⟩,.bool ZA,.bool ZA,J I 0]) 4 32 ON hi DQ DE ph rfl (by decide) (Z (T (Q l.heap.size 0 Y)) 0 0) 0 [] (by simp[Act.eval]) (NQ l #[] 0 ly (by unfold maxLen;omega) rfl) ad x.b e1 (bo x.m x.b) (by simp[Act.eval]) (iT x.m x.b) R5.out (zT x.m x.b) (by unfold maxLen;omega) (by omega) (by simp) ?_;intro v5 w5 m q C;simp only[F6,MH] at m;obtain⟨t,s,rfl⟩:∃g c,v5=Z (T (Q g 0 Y)) x.b c:=(by rcases m.2 with ⟨rfl,_⟩|⟨g,c,cur,rfl,_⟩;(have:=C.1 rfl;simp at this);exact⟨g,c,rfl⟩);have B5:=ae (bg A5.out q (by simp) (λj e=>by simp[Value.ownBlock] at e;omega));have O5:=ae m;obtain⟨t5,u5⟩:=(y.out.aa B5.out y.out.lt).c5;clear m q C);have B:=ae ((y.out.aa B5.out y.out.lt).set5 (Z (T (Q t 0 Y)) x.b s));have F:=ae ((G.out.trans (B5.out.mono G.out.size)).setCell (p:=(Q wr.heap.size 5 Y)) ly (Z (T (Q t 0 Y)) x.b s));have ZN:=ae (aP (R:=wr.heap.size) (j:=5) (own_below O4.out B5.out ly) (by omega) (Z (T (Q t 0 Y)) x.b s));have ZM:=ae (aP (R:=wr.heap.size) (j:=5) (aC O5.out (show wr.heap.size+1<=l.heap.size by omega)) (by omega) (Z (T (Q t 0 Y)) x.b s));go_meet;exact⟨_,_,B.out,F.out,ZN.out,ZM.out⟩
   case rest =>
   clear y G O4 ZJ H5;obtain⟨t,s,B,F,ZN,ZM⟩:=hcut;revert B F ZN ZM;generalize wc=ZQ;intro B F ZN ZM;have G6:Hid (DSub ZQ wr.heap.size (x,Z (T (Q z 0 Y)) x.f A,Z (T (Q t 0 Y)) x.b s)):=⟨aC ZN.out (by omega),aC ZM.out (by omega)⟩
   have X6:=ae (P.out.aa F.out V);obtain⟨q0,_⟩:=B.out.c0;obtain⟨q1,_⟩:=B.out.c1;obtain⟨q2,_⟩:=B.out.c2;obtain⟨q3,_⟩:=B.out.c3;obtain⟨q4,_⟩:=B.out.c4;obtain⟨q5,_⟩:=B.out.c5;obtain⟨m0,m1⟩:=X6.out.o;have A7:=ae ((q9 ZQ).alloc ly (N #[U x.e,J I x.E,J I x.B,U x.h,Z (T (Q z 0 Y)) x.f A,Z (T (Q t 0 Y)) x.b s] 62));have D7:=ae (F.out.trans (A7.out.mono F.out.size));have R7:=ae (X.out.aa D7.out ly);have G7:=ae (G6.out.aa A7.out ly);have aq:w.heap.size+3<=(ZQ.alloc (N #[U x.e,J I x.E,J I x.B,U x.h,Z (T (Q z 0 Y)) x.f A,Z (T (Q t 0 Y)) x.b s] 62)).heap.size:=p9 V D7.out.size;go_wp2_with (at_builtin;refine BS _ rfl (.tmp 29) (.tmp 31) 23 rfl (w.heap.size+3) 62 Bk (.agg #[U ⟨#[]⟩,J I 0,J I 0,U ⟨#[]⟩,Z Y 0 0,Z Y 0 0]) 6 96 MS hj mv th At rfl (by decide) (Z ao R.length co) R.length (R.flatMap ddV) (by simp[Act.eval]) R7.out.i (Q ZQ.heap.size 0 Y) 1 1 (ddV (x,Z (T (Q z 0 Y)) x.f A,Z (T (Q t 0 Y)) x.b s)) (by simp[Act.eval]) rfl (Ht ZQ _ _ _ _ _ _ _) (by simp[ddV,Value.oneCell']) (by unfold maxLen;omega) (by omega) aq ?_;intro v' w8 m q C;obtain⟨gs,cs,rfl⟩:=bV m (by omega);have E8:=ae (bg (eL (w.heap.size+3) _) q aq (λj e=>(R7.out.i.lt j e).1));have M8:=ae (X.out.more R7.out V G7.out m q);have X8:=ae ((X6.out.aa A7.out X6.out.size).aa E8.out ly);have B8:=ae ((B1.out.trans (D7.out.mono B1.out.size)).trans (E8.out.mono (by omega)));obtain⟨k0,k1⟩:=X8.out.o;clear m q C);have M9:=ae (M8.out.set (p:=(Q (w.heap.size+1+1) 0 Y)) (e:=0) (.inl (by show w.heap.size+1+1<w.heap.size+3;omega)) (Z (T (Q gs 0 Y)) (R.length+1) cs));go_roundg (n - 1 - k);case measure=>omega
   case rel =>refine⟨k+1,Z (T (Q gs 0 Y)) (R.length+1) cs,R++[(x,Value.slice (T (Q z 0 Y)) x.f A,Value.slice (T (Q t 0 Y)) x.b s)],by omega,by go_num,X8.out.out _,M9.out,?_,λr O=>(p8.1 O).elim (ld.out r) (λh=>by rw[nL.1 h];exact⟨⟨_,_,rfl⟩,_,_,rfl⟩),B8.out.setCell (by show w.heap.size<=w.heap.size+2;omega) _⟩;show _=_;rw[dg.out,BG,HE.out];rfl
  ·have e:k=n:=by omega
   subst e;obtain⟨r0,z0⟩:=P.out.r;obtain⟨o0,_⟩:=P.out.o;go_wp2;exact bp (v:=.agg #[Z ao R.length co]) (by simp[results,results76,go_sem,r0]) rfl ⟨ao,co,R,rfl,X.out.set (e:=0) (.inl (by show w.heap.size+1<w.heap.size+3;omega)) _,HE.out,ld.out,B1.out.setCell (by show w.heap.size<=w.heap.size+1;omega) _⟩
structure FitD (x:Deed):Prop where
 nm:x.e.size<=5000
 tx:x.h.size<=5000
 an:x.f<=300
 asz:∀j,j<x.f->(x.G j).s.size<=5000
 ln:x.b<=300
 lsz:∀j,j<x.b->(x.m j).e.size<=5000
theorem FitD.fits (h:FitD x):dk x:=⟨by have:=h.an;omega,by have:=h.ln;omega⟩
theorem FitD.sized (h:FitD x):fD x:=by
 have h1:=h.nm;have h2:=h.tx;have h3:=h.an;have h5:=h.ln;refine⟨by unfold maxLen;omega,by unfold maxLen;omega,⟨by omega,λj b=>?_⟩,⟨by omega,λj b=>?_⟩⟩;{have:=h.asz j b;unfold maxLen;omega};{have:=h.lsz j b;unfold maxLen;omega}
structure FitK (K:Nat)(x:Deed):Prop where
 nm:x.e.size<=5000
 tx:x.h.size<=2000+K
 an:x.f<=200+K
 asz:∀j,j<x.f->(x.G j).s.size<=5000
 ln:x.b<=200+K
 lsz:∀j,j<x.b->(x.m j).e.size<=5000
theorem FitK.d (h:FitK K x)(hK:K<=90):FitD x:=⟨h.nm,by have:=h.tx;omega,by have:=h.an;omega,h.asz,by have:=h.ln;omega,h.lsz⟩
theorem FitK.up{L:Nat}(h:FitK K x)(hK:K<=L):FitK L x:=⟨h.nm,by have:=h.tx;omega,by have:=h.an;omega,h.asz,by have:=h.ln;omega,h.lsz⟩
theorem GU:FitK K ft:=⟨by decide,by show 0<=2000+K;omega,E4 _,λj b=>absurd b (by simp[ft]),E4 _,λj b=>absurd b (by simp[ft])⟩
theorem zo:FitD ft:=⟨by decide,by decide,by decide,λj b=>absurd b (by simp[ft]),by decide,λj b=>absurd b (by simp[ft])⟩
theorem ol{s:ByteArray}(h:aw s=true):s.size<=60:=by unfold aw at h;rw[zA,z8] at h;exact h.1.2
theorem EQ (S:Spc)(nm:ByteArray):∀x∈ie S (cf S nm).1,FitD x/\x.h.size<=2000/\x.f<=200/\x.b<=200:=by
 obtain⟨p,_,g⟩:=pV S nm;intro x u;obtain⟨e,n,rfl⟩:=PC.1 u;have c:=p.ents e n;have q:=g (List.ne_nil_of_mem n);have h1:=ol c.nm;have h2:=c.tx;have h3:=c.looks;have i:(iO S (cf S nm).1 e).b=e.looks.length:=rfl;have l:(iO S (cf S nm).1 e).f=fo S e:=rfl;have o:fo S e=0∨valid (S.f1 e.tg).G (S.f1 e.tg).f=true/\fo S e=(S.f1 e.tg).f:=by
  rcases c.E with ⟨b,_⟩|⟨b,_⟩|⟨b,_,r⟩
  {exact .inl (by unfold fo;rw[nD (by omega)])};{exact .inl (by unfold fo;rw[nD (by omega)])};{refine .inr ⟨q.G _ (cT r).1,?_⟩;unfold fo;rw[p7 b]}
 have hn:fo S e<=200:=by
  rcases o with h|⟨h,t⟩
  {omega};{have:=(bO h).2.2;omega}
 have y:∀j,j<fo S e->((S.f1 e.tg).G j).s.size<=5000:=by
  intro j f;rcases o with h|⟨h,t⟩
  {omega}
  ·have b:=gL (bO h).1 (show j<_ by omega);unfold aG at b;rw[z8] at b;have hm:aF ((S.f1 e.tg).G j).op<=2000:=by unfold aF;split<;>omega
   omega
 have m:∀j,j<e.looks.length->(lkF (cf S nm).1 e.looks j).e.size<=5000:=by intro j f;rw[AZ (gq f)];have:=ol (c.lname _ (gz f));show(e.looks[j]).e.size<=5000;omega
 exact⟨⟨by show e.e.size<=_;omega,by show e.h.size<=_;omega,by rw[l];omega,y,by rw[i];omega,m⟩,h2,by rw[l];exact hn,by rw[i];exact h3⟩
structure HAc (base:Nat)(w:M)(a:Option Addr)(n c:Nat)(f:Nat->Deed):Prop where
 sl:∀V,Agr base w V->SlDeed V a n f
 cap:n<=c
 hn:n<=50000
 ak:∀i,i<n->FitD (f i)
theorem HAc.agr (h:HAc b w a n c f)(g:Agr b w V):HAc b V a n c f:=⟨λZK i=>h.sl ZK (g.trans i),h.cap,h.hn,h.ak⟩
theorem HAc.mono (h:HAc b w a n c f)(hb:g<=b):HAc g w a n c f:=⟨λZK i=>h.sl ZK (i.mono hb),h.cap,h.hn,h.ak⟩
theorem HAc.here (h:HAc b w a n c f):SlDeed w a n f:=h.sl w (Agr.refl _ _)
theorem DSub.agr (h:DSub w b r)(c:Agr b w V):DSub V b r:=⟨iE h.G c,iE h.V c⟩
theorem DRow.agr{v:ZC}(h:DRow w b v R)(c:Agr b w V):DRow V b v R:=⟨iE h.i c,λr f=>(h.sub r f).agr c,h.up⟩
theorem jT{f size:Nat}{e:TypeId}{i:List ZC}(h:w.ownsRow f e size (Z a n c) j i):n<=c:=by
 rcases h.2 with ⟨b,h0⟩|⟨g,cap,cur,b,hb,hg,hc,_⟩
 {simp only[ML] at b;omega};{simp only[ML] at b;omega}
theorem Ir (h:DRow w b (Z a R.length c) R)(l:∀r∈R,FitD r.1)(hn:R.length<=50000):HAc b w a R.length c (dF (R.map (·.1))):=by refine⟨λV j=>(h.agr j).am,jT h.i,hn,λi hi=>?_⟩;obtain⟨r,f,g⟩:=cX hi;rw[fX f];exact l r g
def DA (w:M)(R q:Nat)(e:Ending)(b:M):Prop:=∃(a:Option Addr) (n c:Nat) (f:Nat->Deed),e=ZF (.agg #[Z a n c])/\HAc w.heap.size b a n c f/\∃q':Nat,q'<=q/\Rd b R q'/\Only R w b
def DAK (K:Nat)(w:M)(R q:Nat)(e:Ending)(b:M):Prop:=∃(a:Option Addr) (n c:Nat) (f:Nat->Deed),e=ZF (.agg #[Z a n c])/\HAc w.heap.size b a n c f/\(∃q':Nat,q'<=q/\Rd b R q'/\Only R w b)/\n<=450+K/\∀i,i<n->FitK K (f i)
theorem kv {c:Type}(g:c->List ZC)(C:Nat)(b:∀x,(g x).length=C){j:Nat}(f:j<C){x y:c}{u:ZC}(i:g y=(g x).set j u):∀(L:List c) (k:Nat),L[k]?=T x->(L.flatMap g).set (k*C+j) u=(L.set k y).flatMap g
 |[],k,h=>by simp at h
 |z::L,0,h=>by
  obtain rfl:z=x:=by simpa using h
  simp only[J2,List.set_cons_zero,US,F6];rw[UF _ _ (by rw[b];exact f),i]
 |z::L,k+1,h=>by
  have l:L[k]?=T x:=by simpa using h
  have e:(k+1)*C+j - C=k*C+j:=by rw[Nat.add_mul];omega
  simp only[J2,TC];rw[P9 _ _ (by rw[b,Nat.add_mul];omega),b,e,kv g C b f i L k l]
structure DRw (w:M)(base:Nat)(v:ZC)(R:List DR):Prop where
 i:w.ownsRow base 62 6 v R.length (R.flatMap ddV)
 sub:∀r∈R,DSub w base r
theorem DRow.rw{v:ZC}(h:DRow w b v R):DRw w b v R:=⟨h.i,h.sub⟩
theorem DRw.agr{v:ZC}(h:DRw w b v R)(c:Agr b w V):DRw V b v R:=⟨iE h.i c,λr f=>(h.sub r f).agr c⟩
theorem DRw.mono{base':Nat}{v:ZC}(h:DRw w b v R)(hb:base'<=b):DRw w base' v R:=⟨aC h.i hb,λr c=>(h.sub r c).mono hb⟩
theorem DRw.aa{f:M}{B:Nat}{v:ZC}(h:DRw w b v R)(hb:Below B w f)(c:w.heap.size<=B):DRw f b v R:=⟨own_below h.i hb c,λr g=>(h.sub r g).aa hb c⟩
theorem DRw.am (h:DRw w b (Z a R.length c) R):SlDeed w a R.length (dF (R.map (·.1))):=by
 by_cases hz:R.length=0;{exact .inl hz}
 ·obtain⟨g,c',e⟩:=bV h.i (by omega);cases e
  refine .inr ⟨g,0,rfl,(dL h.i).2,λi hi=>?_⟩;obtain⟨r,f,l⟩:=cX hi;rw[fX f];have c:∀j,j<6->∀u,(ddV r)[j]?=T u->w.cell? (Q g (0+i*6+j) Y)=T u:=λj m u n=>by rw[show 0+i*6+j=i*6+j by omega];exact(cD h.i f j m n).1
  obtain⟨t,c4,o,h4⟩:=(h.sub r l).ins;obtain⟨q,c5,p,s⟩:=(h.sub r l).m;exact⟨c 0 (by omega) _ rfl,c 1 (by omega) _ rfl,c 2 (by omega) _ rfl,c 3 (by omega) _ rfl,⟨t,c4,by rw[<-o];exact c 4 (by omega) _ rfl,h4⟩,⟨q,c5,by rw[<-p];exact c 5 (by omega) _ rfl,s⟩⟩
theorem uO (h:DRw w b (Z a n c) R)(e:n=R.length)(l:∀r∈R,FitD r.1)(hn:R.length<=50000):HAc b w a n c (dF (R.map (·.1))):=by subst e;refine⟨λV j=>(h.agr j).am,jT h.i,hn,λi hi=>?_⟩;obtain⟨r,f,g⟩:=cX hi;rw[fX f];exact l r g
theorem DSub.put{f:Array ZC}{fz:Nat × Nat}(h:DSub w b r)(c:w.heap[g]?=T (N f 62 fz))(u:ZC):DSub (w.setCell (Q g j Y) u) b r :=
 ⟨ig h.G c (by decide) u,ig h.V c (by decide) u⟩
theorem DRw.fld{k:Nat}{u:ZC}(h:DRw w b (Z (T (Q g 0 Y)) n c) R)(e:n=R.length)(p:R[k]?=T r)(q:j<6)(s:ddV r'=(ddV r).set j u)(o:DSub w b r'):DRw (w.setCell (Q g (k*6+j) Y) u) b (Z (T (Q g 0 Y)) n c) (R.set k r'):=by
 subst e;obtain⟨cs,z,f⟩:=bq h.i g rfl;have l:=nd (j:=k*6+j) h.i u;rw[kv ddV 6 (λ_=>rfl) q s R k p] at l;refine⟨by rw[LN];exact l,λm i=>?_⟩;rcases NG i with h2|rfl;{exact(h.sub m h2).put f u};{exact o.put f u}
theorem lu{P:Deed->Prop}{k:Nat}(h:∀r∈R,P r.1)(c:P r'.1):∀r∈R.set k r',P r.1:=λr b=>by
 rcases NG b with h2|rfl
 ·exact h r h2
 ·exact c
variable {K:Nat}
structure SpS (K:Nat)(w:M)(R X:Nat)(W:M)(q:Nat)(a:Option Addr)(c:Nat)(D:List DR):Prop where
 rd:Rd W R q
 o:Only R w W
 rs:W.heap[w.heap.size+1]?=T (N #[Z Y 0 0] 25 (0,0))
 bx:W.heap[X]?=T (N #[Z a D.length c] 25 (0,0))
 row:DRw W (w.heap.size+2) (Z a D.length c) D
 ak:∀r∈D,FitK K r.1
 lo:R<w.heap.size
 hX:w.heap.size+2<=X
 num:D.length<=450+K
section
variable {w W W':M}{R X q q' c g k j:Nat}{a:Option Addr}{D:List DR}{r r':DR}{u:ZC}
theorem SpS.lt (h:SpS K w R X W q a c D):X<W.heap.size:=ah h.bx
theorem SpS.F (h:SpS K w R X W q a c D)(b:Only R W W')(hR:Rd W' R q'):SpS K w R X W' q' a c D:=by have hl:=h.lo;have hx:=h.hX;exact⟨hR,h.o.trans b,(b.block _ (ah h.rs) (by omega)).trans h.rs,(b.block _ h.lt (by omega)).trans h.bx,h.row.agr (b.agr (by omega)),h.ak,h.lo,h.hX,h.num⟩
theorem SpS.aa (h:SpS K w R X W q a c D)(b:Below W.heap.size W W'):SpS K w R X W' q a c D:=h.F (Only.u b) (h.rd.aa b ly)
theorem SpS.H (h:SpS K w R X W q a c D):W.cell? (Q X 0 Y)=T (Z a D.length c)/\W.frozen? (Q X 0 Y)=ZA:=by
 have hb:=h.bx;constructor;{simp[World.cell?,hb]};{simp[World.frozen?,hb]}
theorem SpS.L (h:SpS K w R X W q (T (Q g 0 Y)) c D)(b:D[k]?=T r)(f:j<6)(i:(ddV r)[j]?=T u):W.cell? (Q g (k*6+j) Y)=T u/\W.frozen? (Q g (k*6+j) Y)=ZA:=cD h.row.i b j f i
theorem SpS.gb (h:SpS K w R X W q (T (Q g 0 Y)) c D):w.heap.size+2<=g/\g<W.heap.size/\g≠X/\∃f z,W.heap[g]?=T (N f 62 z):=by obtain⟨f,z,b⟩:=bq h.row.i g rfl;obtain⟨h1,h2⟩:=dL h.row.i;refine⟨h1,h2,λe=>?_,f,z,b⟩;rw[e,h.bx] at b;simp at b
theorem SpS.put (h:SpS K w R X W q (T (Q g 0 Y)) c D){b:List DR}(hn:b.length=D.length)(f:DRw (W.setCell (Q g j Y) u) (w.heap.size+2) (Z (T (Q g 0 Y)) D.length c) b)(i:∀r∈b,FitK K r.1):SpS K w R X (W.setCell (Q g j Y) u) q (T (Q g 0 Y)) c b:=by
 obtain⟨h1,h2,h3,cs,z,hg⟩:=h.gb;have hl:=h.lo;have B:=(eL (w.heap.size+2) W).setCell (p:=(Q g j Y)) h1 u;refine⟨h.rd.low B (by omega),h.o.then (B.mono (by omega)),(B.block _ (by omega)).trans h.rs,?_,?_,i,h.lo,h.hX,by rw[hn];exact h.num⟩;{rw[hn];exact(qh _ _ _ _ (λe=>h3 e.symm)).trans h.bx};{rw[hn];exact f}
theorem SpS.fld (h:SpS K w R X W q (T (Q g 0 Y)) c D)(i:D[k]?=T r)(l:j<6)(m:ddV r'=(ddV r).set j u)(b:DSub W (w.heap.size+2) r')(f:FitK K r'.1):SpS K w R X (W.setCell (Q g (k*6+j) Y) u) q (T (Q g 0 Y)) c (D.set k r') :=
 h.put LN (h.row.fld rfl i l m b) (lu h.ak f)
end
theorem SpS.fin{W:M}{R X q:Nat}{D:List DR}(h:SpS K w R X W q a c D)(g:K<=90)(j:q<=ZM):DAK K w R ZM (ZF (.agg #[Z a D.length c])) (W.setCell (Q (w.heap.size+1) 0 Y) (Z a D.length c)):=by
 have hl:=h.lo;have B:=(eL w.heap.size W).setCell (p:=(Q (w.heap.size+1) 0 Y)) (F3 _) (Z a D.length c);have f:Agr (w.heap.size+2) W (W.setCell (Q (w.heap.size+1) 0 Y) (Z a D.length c)):=⟨by simp,λk h1 _=>qh _ _ _ _ (by show k≠w.heap.size+1;omega)⟩
 exact⟨a,D.length,c,_,rfl,(uO (h.row.agr f) rfl (λr b=>(h.ak r b).d g) (by have:=h.num;omega)).mono (by omega),⟨q,j,h.rd.low B h.lo,h.o.then B⟩,h.num,λi hi=>by
  obtain⟨r,b,l⟩:=cX hi;rw[fX b]
  exact h.ak r l⟩
def FitI (x:Deed):Prop:=FitD x/\x.h.size<=2000/\x.f<=200/\x.b<=200
theorem FitI.k (h:FitI x):FitK K x:=⟨h.1.nm,by have:=h.2.1;omega,by have:=h.2.2.1;omega,h.1.asz,by have:=h.2.2.2;omega,h.1.lsz⟩
theorem FitK.E (h:FitK K x)(z:Int):FitK K { x with E:=z }:=⟨h.nm,h.tx,h.an,h.asz,h.ln,h.lsz⟩
theorem FitK.B (h:FitK K x)(z:Int):FitK K { x with B:=z }:=⟨h.nm,h.tx,h.an,h.asz,h.ln,h.lsz⟩
theorem FitK.h (h:FitK K x)(b:t.size<=2000+K):FitK K { x with h:=t }:=⟨h.nm,b,h.an,h.asz,h.ln,h.lsz⟩
theorem FitK.e (h:FitK K x)(b:t.size<=5000):FitK K { x with e:=t }:=⟨b,h.tx,h.an,h.asz,h.ln,h.lsz⟩
theorem DSub.same (h:DSub w b r)(y:Deed)(c:y.f=r.1.f)(i:y.G=r.1.G)(g:y.b=r.1.b)(f:y.m=r.1.m):DSub w b (y,r.2):=by
 refine⟨?_,?_⟩;{show w.ownsRow b 90 3 r.2.1 y.f (bH y.G y.f);rw[c,i];exact h.G};{show w.ownsRow b 93 4 r.2.2 y.b (bo y.m y.b);rw[g,f];exact h.V}
def jj (W:M)(g k:Nat)(r:DR):M:=(((((W.setCell (Q g (k*6) Y) (U r.1.e)).setCell (Q g (k*6+1) Y) (J I r.1.E)).setCell (Q g (k*6+2) Y) (J I r.1.B)).setCell (Q g (k*6+3) Y) (U r.1.h)).setCell (Q g (k*6+4) Y) r.2.1).setCell (Q g (k*6+5) Y) r.2.2
theorem jz{W:M}{k:Nat}{D:List DR}{u:ZC}(h:W.ownsRow b 62 6 (Z (T (Q g 0 Y)) n c) n ((D.set k r).flatMap ddV))(i:k<D.length)(l:j<6)(m:ddV r'=(ddV r).set j u):(W.setCell (Q g (k*6+j) Y) u).ownsRow b 62 6 (Z (T (Q g 0 Y)) n c) n ((D.set k r').flatMap ddV):=by have f:=nd (j:=k*6+j) h u;rw[kv ddV 6 (λ_=>rfl) l m (D.set k r) k (by rw[NT i]),TV] at f;exact f
theorem uP{W:M}{k:Nat}{D:List DR}(r':DR)(h:W.ownsRow b 62 6 (Z (T (Q g 0 Y)) n c) n (D.flatMap ddV))(m:D[k]?=T r):(jj W g k r').ownsRow b 62 6 (Z (T (Q g 0 Y)) n c) n ((D.set k r').flatMap ddV):=by
 obtain⟨f,l⟩:=p6.1 m;have i:W.ownsRow b 62 6 (Z (T (Q g 0 Y)) n c) n ((D.set k r).flatMap ddV):=by rw[<-l,List.set_getElem_self];exact h
 have h1:=jz (j:=0) (u:=U r'.1.e) (r':=({ r.1 with e:=r'.1.e },r.2)) i f (by omega) rfl;have h2:=jz (j:=1) (u:=J I r'.1.E) (r':=({ r.1 with e:=r'.1.e,E:=r'.1.E },r.2)) h1 f (by omega) rfl;have h3:=jz (j:=2) (u:=J I r'.1.B) (r':=({ r.1 with e:=r'.1.e,E:=r'.1.E,B:=r'.1.B },r.2)) h2 f (by omega) rfl;have h4:=jz (j:=3) (u:=U r'.1.h) (r':=({ r.1 with e:=r'.1.e,E:=r'.1.E,B:=r'.1.B,h:=r'.1.h },r.2)) h3 f (by omega) rfl;have o:=jz (j:=4) (u:=r'.2.1) (r':=({ r.1 with e:=r'.1.e,E:=r'.1.E,B:=r'.1.B,h:=r'.1.h },r'.2.1,r.2.2)) h4 f (by omega) rfl;exact jz (j:=5) (u:=r'.2.2) (r':=r') o f (by omega) rfl
theorem fq (W:M)(g k m:Nat)(r:DR)(h:m≠g):(jj W g k r).heap[m]?=W.heap[m]?:=by unfold jj;repeat rw[qh _ _ _ _ (by show m≠g;exact h)]
theorem pZ (W:M)(g k B:Nat)(r:DR)(h:B<=g):Below B W (jj W g k r) :=
 ((((((eL B W).setCell (p:=(Q g (k*6) Y)) h _).setCell (p:=(Q g (k*6+1) Y)) h _).setCell (p:=(Q g (k*6+2) Y)) h _).setCell (p:=(Q g (k*6+3) Y)) h _).setCell (p:=(Q g (k*6+4) Y)) h _).setCell (p:=(Q g (k*6+5) Y)) h _
theorem DSub.far{W W':M}(h:DSub W b r)(c:∀m,r.2.1.ownBlock=T m->OfTy W m 90->W'.heap[m]?=W.heap[m]?)(f:∀m,r.2.2.ownBlock=T m->OfTy W m 93->W'.heap[m]?=W.heap[m]?):DSub W' b r:=⟨bE h.G c,bE h.V f⟩
theorem SpS.ad{W W':M}{R X q q' k V:Nat}{D:List DR}(h:SpS K w R X W q (T (Q g 0 Y)) c D)(ZO:D.Pairwise λa b=>Apt a.2.1 b.2.1/\Apt a.2.2 b.2.2)(ZL:D[k]?=T r)(ZK:r∈D)(ZN:r.2.2=Z (T (Q o 0 Y)) r.1.b V)
  (hR:Rd W' R q') (hO:Only R w W') (keep:∀i,i<W.heap.size->i≠R->i≠o->W'.heap[i]?=W.heap[i]?) (r':DR) (hs:DSub W' (w.heap.size+2) r') (hf:FitK K r'.1):SpS K w R X (jj W' g k r') q' (T (Q g 0 Y)) c (D.set k r'):=by
 obtain⟨h1,h2,h3,ZI,z,L⟩:=h.gb;have hlo:=h.lo;have hX:=h.hX;obtain⟨cl2,zl,A⟩:=bq (h.row.sub r ZK).V o (by rw[ZN];rfl);have hlb:w.heap.size+2<=o:=((h.row.sub r ZK).V.lt o (by rw[ZN];rfl)).1;have ZM:g≠o:=λe=>by rw[e,A] at L;simp at L
 have P:X≠o:=λe=>by have:=h.bx;rw[e,A] at this;simp at this
 have S:=keep g h2 (by omega) ZM;have B:=pZ W' g k (w.heap.size+2) r' h1;have ZQ:W'.ownsRow (w.heap.size+2) 62 6 (Z (T (Q g 0 Y)) D.length c) D.length (D.flatMap ddV):=bE h.row.i λm f _=>by
  obtain rfl:g=m:=by simpa[Value.ownBlock] using f
  exact S
 have hn:(D.set k r').length=D.length:=LN;have O:∀m e,OfTy W m e->e≠93->w.heap.size+2<=m->W'.heap[m]?=W.heap[m]?:=λm e n ZJ hb=>by obtain⟨c0,z0,j⟩:=n;exact keep m (ah j) (by omega) λp=>by rw[p,A] at j;simp at j;exact ZJ j.2.1.symm
 have y:∀s,DSub W' (w.heap.size+2) s->DSub (jj W' g k r') (w.heap.size+2) s:=λs x=>by
  have F:W'.heap[g]?=T (N ZI 62 z):=S.trans L;refine x.far (λm _ n=>fq _ _ _ _ _ λe=>?_) λm _ n=>fq _ _ _ _ _ λe=>?_;{obtain⟨c0,z0,j⟩:=n;rw[e,F] at j;simp at j};{obtain⟨c0,z0,j⟩:=n;rw[e,F] at j;simp at j}
 refine⟨hR.low B (by omega),hO.then (B.mono (by omega)),?_,?_,⟨?_,λs x=>?_⟩,lu h.ak hf,h.lo,h.hX,by rw[hn];exact h.num⟩;{exact(B.block _ (by omega)).trans ((keep _ (ah h.rs) (by omega) (by omega)).trans h.rs)};{rw[hn];exact(fq _ _ _ _ _ (λe=>h3 e.symm)).trans ((keep X h.lt (by omega) P).trans h.bx)};{rw[hn];exact uP r' ZQ ZL}
 ·obtain⟨i,hi⟩:=PT x;by_cases e:i=k;{subst e;rw[NT (by rw[<-hn];exact(p6.1 hi).1)] at hi;obtain rfl:=BO hi;exact y _ hs}
  ·rw[OR (λp=>e p.symm)] at hi;have t:=L8 hi;refine y s ((h.row.sub s t).far (λm f n=>O m _ n (by decide) ((h.row.sub s t).G.lt m f).1) (λm f n=>?_));obtain⟨c0,z0,j⟩:=n;have hb:=((h.row.sub s t).V.lt m f).1;refine keep m (ah j) (by omega) λp=>?_;obtain⟨G,E⟩:=p6.1 hi;obtain⟨H,ZP⟩:=p6.1 ZL;have C:r.2.2.ownBlock=T o:=by rw[ZN];rfl
   rcases Nat.lt_or_gt_of_ne e with u|u;{have:=(NP.1 ZO i k G H u).2;rw[E,ZP] at this;rcases this with l|l;{rw[f] at l;cases l};{exact l (by rw[f,C,p])}};{have:=(NP.1 ZO k i H G u).2;rw[E,ZP] at this;rcases this with l|l;{rw[C] at l;cases l};{exact l (by rw[f,C,p])}}
theorem SpS.actK{W W':M}{R X q p l:Nat}{D:List DR}(h:SpS K w R X W q (T (Q g 0 Y)) c D)(b:r∈D)(t:r.2.1=Z (T (Q o 0 Y)) r.1.f l)(s:r.2.2=Z (T (Q j 0 Y)) r.1.b p)(keep:∀i,i<W.heap.size->i≠R->i≠j->W'.heap[i]?=W.heap[i]?):W'.ownsRow (w.heap.size+2) 90 3 (Z (T (Q o 0 Y)) r.1.f l) r.1.f (bH r.1.G r.1.f):=by have hlo:=h.lo;obtain⟨cl2,zl,n⟩:=bq (h.row.sub r b).V j (by rw[s];rfl);rw[<-t];refine bE (h.row.sub r b).G λm h1 h2=>?_;obtain⟨c0,z0,f⟩:=h2;have hb:=((h.row.sub r b).G.lt m h1).1;exact keep m (ah f) (by omega) (λe=>by rw[e,n] at f;simp at f)
theorem SpS.kept{W W':M}{R X q:Nat}{D:List DR}(h:SpS K w R X W q (T (Q g 0 Y)) c D)(o:r∈D)(n:r.2.2=Z (T (Q j 0 Y)) r.1.b m)(keep:∀i,i<W.heap.size->i≠R->i≠j->W'.heap[i]?=W.heap[i]?):W'.heap[X]?=W.heap[X]?/\W'.heap[g]?=W.heap[g]?/\g<W'.heap.size:=by obtain⟨h1,h2,h3,cs,z,f⟩:=h.gb;have hlo:=h.lo;have hX:=h.hX;obtain⟨cl2,zl,b⟩:=bq (h.row.sub r o).V j (by rw[n];rfl);have l:=keep g h2 (by omega) (λe=>by rw[e,b] at f;simp at f);exact⟨keep X h.lt (by omega) (λe=>by have:=h.bx;rw[e,b] at this;simp at this),l,ah (l.trans f)⟩
theorem SpS.six{W:M}{R X q k:Nat}{D:List DR}(h:SpS K w R X W q (T (Q g 0 Y)) c D)(t:D[k]?=T r)(r':DR)(p:DSub W (w.heap.size+2) r')(u:FitK K r'.1):SpS K w R X (jj W g k r') q (T (Q g 0 Y)) c (D.set k r'):=by
 obtain⟨h1,h2,h3,cs,z,l⟩:=h.gb;have hlo:=h.lo;have B:=pZ W g k (w.heap.size+2) r' h1;have hn:(D.set k r').length=D.length:=LN;have b:∀s,DSub W (w.heap.size+2) s->DSub (jj W g k r') (w.heap.size+2) s:=λs f=>by
  refine f.far (λm _ j=>fq _ _ _ _ _ λe=>?_) λm _ j=>fq _ _ _ _ _ λe=>?_;{obtain⟨c0,z0,i⟩:=j;rw[e,l] at i;simp at i};{obtain⟨c0,z0,i⟩:=j;rw[e,l] at i;simp at i}
 refine⟨h.rd.low B (by omega),h.o.then (B.mono (by omega)),(B.block _ (by omega)).trans h.rs,?_,⟨?_,λs f=>?_⟩,lu h.ak u,h.lo,h.hX,by rw[hn];exact h.num⟩;{rw[hn];exact(fq _ _ _ _ _ (λe=>h3 e.symm)).trans h.bx};{rw[hn];exact uP r' h.row.i t};{rcases NG f with n|rfl;{exact b s (h.row.sub s n)};{exact b _ p}}
theorem DSub.aq{i f:Nat}(h:DSub w b r)(l:r.2.1=Z (T (Q i 0 Y)) r.1.f f)(j:r.2.2=Z (T (Q g 0 Y)) r.1.b c):DSub w b (r.1,Z (T (Q i 0 Y)) r.1.f f,Z (T (Q g 0 Y)) r.1.b c):=by rw[<-l,<-j];exact h
theorem DSub.six{W:M}{k:Nat}{s:DR}{j:Array ZC}{z:Nat × Nat}(h:DSub W c s)(i:W.heap[g]?=T (N j 62 z)):DSub (jj W g k r') c s:=by
 refine h.far (λm _ f=>fq _ _ _ _ _ λe=>?_) λm _ f=>fq _ _ _ _ _ λe=>?_;{obtain⟨c0,z0,b⟩:=f;rw[e,i] at b;simp at b};{obtain⟨c0,z0,b⟩:=f;rw[e,i] at b;simp at b}
variable {K:Nat}
def noR:DR:=(ft,Z Y 0 0,Z Y 0 0)
theorem ES (n i:Nat)(h:i<n*6):(dv n)[i]?=(ddV noR)[i % 6]?:=by
 have e:(dv n)[i]?=T ((Value.agg #[U ⟨#[]⟩,J I 0,J I 0,U ⟨#[]⟩,Z Y 0 0,Z Y 0 0]).cells[i % 6]!):=by unfold dv madeCells;simp[h];rfl
 rw[e];have b:i % 6<6:=RJ _ (by omega);generalize i % 6=j at b;rcases(show j=0∨j=1∨j=2∨j=3∨j=4∨j=5 by omega) with rfl|rfl|rfl|rfl|rfl|rfl<;>rfl
theorem zp (n:Nat):(dv n).toList=(List.replicate n noR).flatMap ddV:=by
 refine RH λi=>?_;by_cases h:i<n*6
 ·have e:i=i / 6*6+i % 6:=by omega
  rw[NJ,ES n i h];conv=>rhs;rw[e]
  rw[dr ddV 6 (λ_=>rfl) _ (i / 6) (i % 6) (by omega) noR (by rw[List.getElem?_replicate,p7 (by omega)])]
 {have hz:(dv n).size=n*6:=size_madeCells _ _;rw[MR (by rw[NY,hz];omega),MR (by rw[eP ddV 6 (λ_=>rfl),QB];omega)]}
theorem BJ (w:M)(b n:Nat)(hb:b<=w.heap.size)(hn:n<=1000):DRw (w.alloc (N (dv n) 62)) b (Z (T (Q w.heap.size 0 Y)) n n) (List.replicate n noR):=by
 have hz:(dv n).size=n*6:=size_madeCells _ _;have c:((List.replicate n noR).flatMap ddV).length=n*6:=by rw[eP ddV 6 (λ_=>rfl),QB]
 refine⟨?_,λr f=>?_⟩;{rw[QB];refine⟨c,.inr ⟨w.heap.size,n,dv n,rfl,hb,n6 w _,n8 _,by unfold maxLen;omega,hz,?_⟩⟩;rw[<-zp,KK (by rw[NY,hz];omega)]};{rw[List.eq_of_mem_replicate f];exact⟨AT _ _ _ _,AT _ _ _ _⟩}
theorem BK{W:M}{R X q:Nat}{D:List DR}(h:SpS K w R X W q a c D)(hm:m<=450)(f:q<=ZM):DAK K w R ZM (ZF (.agg #[Z (T (Q W.heap.size 0 Y)) m m])) ((W.setCell (Q (w.heap.size+1) 0 Y) (Z (T (Q W.heap.size 0 Y)) m m)).alloc (N (dv m) 62)):=by
 have hl:=h.lo;have hx:=h.lt;have hX:=h.hX;have hz:(W.setCell (Q (w.heap.size+1) 0 Y) (Z (T (Q W.heap.size 0 Y)) m m)).heap.size=W.heap.size:=by simp
 have B:=((eL w.heap.size W).setCell (p:=(Q (w.heap.size+1) 0 Y)) (F3 _) (Z (T (Q W.heap.size 0 Y)) m m)).alloc (by rw[hz];omega) (N (dv m) 62);have b:=BJ (W.setCell (Q (w.heap.size+1) 0 Y) (Z (T (Q W.heap.size 0 Y)) m m)) w.heap.size m (by rw[hz];omega) (by omega);rw[hz] at b
 exact⟨T (Q W.heap.size 0 Y),m,m,_,rfl,uO b (by rw[QB]) (λr b=>by rw[List.eq_of_mem_replicate b];exact zo) (by rw[QB];omega),⟨q,f,h.rd.low B h.lo,h.o.then B⟩,by omega,λi hi=>by
  rw[fX (r:=noR) (by rw[List.getElem?_replicate,p7 hi])]
  exact GU⟩
theorem SpS.box_{W W':M}{R X q:Nat}{j:Option Addr}{D b:List DR}(h:SpS K w R X W q a c D)(y:Below W.heap.size W W')(l:W'.ownsRow (w.heap.size+2) 62 6 (Z j b.length g) b.length (b.flatMap ddV))(u:∀r∈b,DSub W' (w.heap.size+2) r)(C:∀r∈b,FitK K r.1)(hn:b.length<=450+K):SpS K w R X (W'.setCell (Q X 0 Y) (Z j b.length g)) q j g b:=by
 have i:=h.aa y;have hX:=h.hX;have hlo:=h.lo;have B:=(eL (w.heap.size+2) W').setCell (p:=(Q X 0 Y)) hX (Z j b.length g);have far:∀m,m≠X->(W'.setCell (Q X 0 Y) (Z j b.length g)).heap[m]?=W'.heap[m]?:=λm z=>qh _ _ _ _ z;have n:∀m e,OfTy W' m e->e≠25->m≠X:=λm e f s t=>by obtain⟨c0,z0,A⟩:=f;have:=i.bx;rw[<-t,A] at this;simp at this;exact s this.2.1
 refine⟨i.rd.low B (by omega),i.o.then (B.mono (by omega)),(B.block _ (by omega)).trans i.rs,?_,⟨bE l λm _ f=>far m (n m _ f (by decide)),λr x=>(u r x).far (λm _ f=>far m (n m _ f (by decide))) (λm _ f=>far m (n m _ f (by decide)))⟩,C,h.lo,h.hX,hn⟩;exact cy i.bx _
theorem zq{base k:Nat}{D:List DR}(hk:k<D.length)(hc:D.length<=c):∃i:Addr,(if c=k+1 then T ((Q g 0 Y):Addr) else T ⟨g,(k+1)*6,Y⟩)=T i /\
  ∀V:M,V.ownsRow base 62 6 (Z (T (Q g 0 Y)) D.length c) D.length (D.flatMap ddV)->∀j u,((D.drop (k+1)).flatMap ddV)[j]?=T u->V.cell? (i.add j)=T u:=by
 by_cases h:c=k+1;{refine⟨(Q g 0 Y),by rw[p7 h],λV f j u b=>?_⟩;rw[List.drop_eq_nil_of_le (by omega)] at b;simp at b}
 ·refine⟨⟨g,(k+1)*6,Y⟩,by rw[nD h],λV f j u b=>?_⟩
  have h1:=f.cells (g:=g) rfl ((k+1)*6+j) u (by
   have e:D.flatMap ddV=(D.take (k+1)).flatMap ddV++(D.drop (k+1)).flatMap ddV:=by rw[<-BM,NZ]
   have l:((D.take (k+1)).flatMap ddV).length=(k+1)*6:=by rw[eP ddV 6 (λ_=>rfl),MO,PI (by omega)]
   rw[e,I5 (by omega),l,Nat.add_sub_cancel_left]
   exact b)
  rw[iU] at h1 ⊢;rwa[F6] at h1
theorem BP{D:List DR}(k:Nat)(h:V.ownsRow b 62 6 (Z (T (Q g 0 Y)) D.length c) D.length (D.flatMap ddV)):∀j u,((D.take k).flatMap ddV)[j]?=T u->V.cell? (((Q g 0 Y):Addr).add j)=T u:=by
 intro j u f;refine h.cells (g:=g) rfl j u ?_;have e:D.flatMap ddV=(D.take k).flatMap ddV++(D.drop k).flatMap ddV:=by rw[<-BM,NZ]
 rw[e,MM (p6.1 f).1];exact f
theorem qU (D:List DR)(h:∀r∈D,Som r):∀u∈D.flatMap ddV,u.oneCell'=true:=by intro u j;obtain⟨r,i,b⟩:=NW.1 j;obtain⟨⟨g,c,f⟩,g',c',l⟩:=h r i;simp only[ddV,f,l,A9,nj,PS] at b;rcases b with rfl|rfl|rfl|rfl|rfl|rfl<;>rfl
