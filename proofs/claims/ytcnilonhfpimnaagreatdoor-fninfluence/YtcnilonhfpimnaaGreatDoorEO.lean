import Derived.Test.YtcnilonhfpimnaaGreatDoorEA
import Derived.Test.YtcnilonhfpimnaaGreatDoorGY
import Derived.Test.YtcnilonhfpimnaaGreatDoorFZ
set_option linter.all false
open Go renaming Addr.mk->T,Value.slice->Z,Value.string->U,Value.int->J,Value.agg->ZJ,Obj.cells->N,IntKind.i64->I,World->E,Value->ZB,Ending.returned->ZI,World.heap->z,World.ownsRow->ZU
open Option renaming none->Y,some->Q
open Array renaming size->A
open List renaming length->B
namespace Go.Proofs.YtcnilonhfpimnaaGreatDoor.Vp
open RowKit Ca
variable {w W V W':E}{b g n X q j K f ZO o m:Nat}{r r':DR}{D R:List DR}{x:au}{a:O_}{u:ZB}{t:F_}
structure FitD (x:au):Prop where
 nm:x.e.size<=5000
 tx:x.H.size<=5000
 an:x.h<=300
 asz:∀j,j<x.h->(x.q j).s.size<=5000
 ln:x.f<=300
 lsz:∀j,j<x.f->(x.m j).e.size<=5000
def FitD.fits (h:FitD x):cX x:=⟨by have:=h.an;omega,by have:=h.ln;omega⟩
def FitD.sized (h:FitD x):fo x:=by
 have h1:=h.nm;have h2:=h.tx;have h3:=h.an;have h5:=h.ln;refine⟨by unfold maxLen;omega,by unfold maxLen;omega,⟨by omega,λj b=>?_⟩,⟨by omega,λj b=>?_⟩⟩;{have:=h.asz j b;unfold maxLen;omega};{have:=h.lsz j b;unfold maxLen;omega}
structure FitK (K:Nat)(x:au):Prop where
 nm:x.e.size<=5000
 tx:x.H.size<=2000+K
 an:x.h<=200+K
 asz:∀j,j<x.h->(x.q j).s.size<=5000
 ln:x.f<=200+K
 lsz:∀j,j<x.f->(x.m j).e.size<=5000
def FitK.d (h:FitK K x)(hK:K<=90):FitD x:=⟨h.nm,by have:=h.tx;omega,by have:=h.an;omega,h.asz,by have:=h.ln;omega,h.lsz⟩
def FitK.up{L:Nat}(h:FitK K x)(hK:K<=L):FitK L x:=⟨h.nm,by have:=h.tx;omega,by have:=h.an;omega,h.asz,by have:=h.ln;omega,h.lsz⟩
def Ii:FitK K fG:=⟨by decide,by show 0<=2000+K;omega,DW _,λj b=>absurd b (by simp[fG]),DW _,λj b=>absurd b (by simp[fG])⟩
def Ar:FitD fG:=⟨by decide,by decide,by decide,λj b=>absurd b (by simp[fG]),by decide,λj b=>absurd b (by simp[fG])⟩
def oY{s:F_}(h:aA s=true):s.size<=60:=by unfold aA at h;rw[j6,nD] at h;exact h.1.2
def Ga (S:J_)(nm:F_):∀x∈bk S (bE S nm).1,FitD x/\x.H.size<=2000/\x.h<=200/\x.f<=200:=by
 obtain⟨t,_,m⟩:=mh S nm;intro x q;obtain⟨e,i,rfl⟩:=NN.1 q;have f:=t.W e i;have ZW:=m (List.ne_nil_of_mem i);have h1:=oY f.nm;have h2:=f.tx;have ZV:=f.D;have p:(bo S (bE S nm).1 e).f=B e.D:=rfl;have n:(bo S (bE S nm).1 e).h=bP S e:=rfl;have o:bP S e=0\/valid (S.f1 e.tg).q (S.f1 e.tg).h=true/\bP S e=(S.f1 e.tg).h:=by
  rcases f.L with⟨b,_⟩|⟨b,_⟩|⟨b,_,u⟩
  {exact .inl (by unfold bP;rw[eI (by omega)])};{exact .inl (by unfold bP;rw[eI (by omega)])};{refine .inr ⟨ZW.q _ (bu u).1,?_⟩;unfold bP;rw[eT b]}
 have hn:bP S e<=200:=by
  rcases o with h|⟨h,y⟩
  {omega};{have:=(bJ h).2.2;omega}
 have r:∀j,j<bP S e->((S.f1 e.tg).q j).s.size<=5000:=by
  intro j g;rcases o with h|⟨h,y⟩
  {omega}
  ·have b:=j7 (bJ h).1 (show j<_ by omega);unfold cL at b;rw[nD] at b;have hm:bW ((S.f1 e.tg).q j).op<=2000:=by unfold bW;split<;>omega
   omega
 have l:∀j,j<B e.D->(lkF (bE S nm).1 e.D j).e.size<=5000:=by intro j g;rw[lA (gq g)];have:=oY (f.lname _ (gz g));show(e.D[j]).e.size<=5000;omega
 exact⟨⟨by show e.e.size<=_;omega,by show e.H.size<=_;omega,by rw[n];omega,r,by rw[p];omega,l⟩,h2,by rw[n];exact hn,by rw[p];exact ZV⟩
structure HAc (base:Nat)(w:E)(a:O_)(n c:Nat)(f:Nat->au):Prop where
 sl:∀V,Agr base w V->SlDeed V a n f
 j_:n<=c
 hn:n<=50000
 aq:∀i,i<n->FitD (f i)
def HAc.agr{c:Nat}{f:Nat->au}(h:HAc b w a n c f)(g:Agr b w V):HAc b V a n c f:=⟨λZN i=>h.sl ZN (g.k i),h.j_,h.hn,h.aq⟩
def HAc.P{c:Nat}{f:Nat->au}(h:HAc b w a n c f)(hb:g<=b):HAc g w a n c f:=⟨λZN i=>h.sl ZN (i.P hb),h.j_,h.hn,h.aq⟩
def DSub.agr (h:DSub w b r)(f:Agr b w V):DSub V b r:=⟨fk h.q f,fk h.az f⟩
def DRow.agr{v:ZB}(h:DRow w b v R)(f:Agr b w V):DRow V b v R:=⟨fk h.u f,λr g=>(h.sub r g).agr f,h.up⟩
def jY{size c:Nat}{e:TypeId}{i:List ZB}(h:ZU w f e size (Z a n c) j i):n<=c:=by
 rcases h.2 with⟨b,h0⟩|⟨g,j_,cur,b,hb,hg,hc,_⟩
 {simp only[IS] at b;omega};{simp only[IS] at b;omega}
def Ja{c:Nat}(h:DRow w b (Z a (B R) c) R)(f:∀r∈R,FitD r.1)(hn:B R<=50000):HAc b w a (B R) c (dF (R.map (·.1))):=by refine⟨λV g=>(h.agr g).bd,jY h.u,hn,λi hi=>?_⟩;obtain⟨r,l,j⟩:=dG hi;rw[iM l];exact f r j
def DAK (K:Nat)(w:E)(R q:Nat)(e:Ending)(b:E):Prop:=∃(a:O_) (n c:Nat) (f:Nat->au),e=ZI (ZJ #[Z a n c])/\HAc (A (z w)) b a n c f/\(∃q':Nat,q'<=q/\Rd b R q'/\zt R w b)/\n<=450+K/\∀i,i<n->FitK K (f i)
def ku {f:Type}(g:f->List ZB)(C:Nat)(b:∀x,(g x).length=C){j:Nat}(l:j<C){x y:f}{u:ZB}(i:g y=(g x).set j u):∀(L:List f) (k:Nat),L[k]?=Q x->(L.flatMap g).set (k*C+j) u=(L.set k y).flatMap g
 |[],k,h=>by simp at h
 |ZW::L,0,h=>by
  obtain rfl:ZW=x:=by simpa using h
  simp only[N9,List.set_cons_zero,UR,I5];rw[WW _ _ (by rw[b];exact l),i]
 |ZW::L,k+1,h=>by
  have m:L[k]?=Q x:=by simpa using h
  have e:(k+1)*C+j - C=k*C+j:=by rw[Nat.add_mul];omega
  simp only[N9,VA];rw[T9 _ _ (by rw[b,Nat.add_mul];omega),b,e,ku g C b l i L k m]
structure DRw (w:E)(base:Nat)(v:ZB)(R:List DR):Prop where
 u:ZU w base 62 6 v (B R) (R.flatMap ddV)
 sub:∀r∈R,DSub w base r
def DRow.rw{v:ZB}(h:DRow w b v R):DRw w b v R:=⟨h.u,h.sub⟩
def DRw.agr{v:ZB}(h:DRw w b v R)(f:Agr b w V):DRw V b v R:=⟨fk h.u f,λr g=>(h.sub r g).agr f⟩
def DRw.P{base':Nat}{v:ZB}(h:DRw w b v R)(hb:base'<=b):DRw w base' v R:=⟨aE h.u hb,λr f=>(h.sub r f).P hb⟩
def DRw.aa{g:E}{ZX:Nat}{v:ZB}(h:DRw w b v R)(hb:Below ZX w g)(f:A (z w)<=ZX):DRw g b v R:=⟨K_ h.u hb f,λr i=>(h.sub r i).aa hb f⟩
def DRw.bd{c:Nat}(h:DRw w b (Z a (B R) c) R):SlDeed w a (B R) (dF (R.map (·.1))):=by
 by_cases hz:B R=0;{exact .inl hz}
 ·obtain⟨g,c',e⟩:=dr h.u (by omega);cases e
  refine .inr ⟨g,0,rfl,(cV h.u).2,λi hi=>?_⟩;obtain⟨r,l,f⟩:=dG hi;rw[iM l];have c:∀j,j<6->∀u,(ddV r)[j]?=Q u->w.cell? (T g (0+i*6+j) Y)=Q u:=λj x u t=>by rw[show 0+i*6+j=i*6+j by omega];exact(iU h.u l j x t).1
  obtain⟨n,c4,p,s⟩:=(h.sub r f).ins;obtain⟨m,c5,o,q⟩:=(h.sub r f).m;exact⟨c 0 (by omega) _ rfl,c 1 (by omega) _ rfl,c 2 (by omega) _ rfl,c 3 (by omega) _ rfl,⟨n,c4,by rw[<-p];exact c 4 (by omega) _ rfl,s⟩,⟨m,c5,by rw[<-o];exact c 5 (by omega) _ rfl,q⟩⟩
def CY{c:Nat}(h:DRw w b (Z a n c) R)(e:n=B R)(f:∀r∈R,FitD r.1)(hn:B R<=50000):HAc b w a n c (dF (R.map (·.1))):=by subst e;refine⟨λV g=>(h.agr g).bd,jY h.u,hn,λi hi=>?_⟩;obtain⟨r,l,j⟩:=dG hi;rw[iM l];exact f r j
def DSub.put{i:Array ZB}{fz:Nat × Nat}(h:DSub w b r)(f:w.heap[g]?=Q (N i 62 fz))(u:ZB):DSub (w.setCell (T g j Y) u) b r:=
 ⟨dJ h.q f (by decide) u,dJ h.az f (by decide) u⟩
def DRw.ao{c k:Nat}(h:DRw w b (Z (Q (T g 0 Y)) n c) R)(e:n=B R)(m:R[k]?=Q r)(s:j<6)(q:ddV r'=(ddV r).set j u)(p:DSub w b r'):DRw (w.setCell (T g (k*6+j) Y) u) b (Z (Q (T g 0 Y)) n c) (R.set k r'):=by
 subst e;obtain⟨cs,ZW,i⟩:=fS h.u g rfl;have f:=gU (j:=k*6+j) h.u u;rw[ku ddV 6 (λ_=>rfl) s q R k m] at f;refine⟨by rw[NJ];exact f,λo l=>?_⟩;rcases OR l with h2|rfl;{exact(h.sub o h2).put i u};{exact p.put i u}
def oI{P:au->Prop}{k:Nat}(h:∀r∈R,P r.1)(f:P r'.1):∀r∈R.set k r',P r.1:=λr b=>by
 rcases OR b with h2|rfl
 ·exact h r h2
 ·exact f
variable {K:Nat}
structure SpS (K:Nat)(w:E)(R X:Nat)(W:E)(q:Nat)(a:O_)(c:Nat)(D:List DR):Prop where
 rd:Rd W R q
 o:zt R w W
 rs:W.heap[A (z w)+1]?=Q (N #[Z Y 0 0] 25 (0,0))
 bx:W.heap[X]?=Q (N #[Z a (B D) c] 25 (0,0))
 row:DRw W (A (z w)+2) (Z a (B D) c) D
 aq:∀r∈D,FitK K r.1
 lo:R<A (z w)
 hX:A (z w)+2<=X
 num:B D<=450+K
section
variable {w W W':E}{R X q q' c g k j:Nat}{a:O_}{D:List DR}{r r':DR}{u:ZB}
def SpS.lt (h:SpS K w R X W q a c D):X<A (z W):=aj h.bx
def SpS.ac (h:SpS K w R X W q a c D)(b:zt R W W')(hR:Rd W' R q'):SpS K w R X W' q' a c D:=by have hl:=h.lo;have hx:=h.hX;exact⟨hR,h.o.k b,(b.p _ (aj h.rs) (by omega)).k h.rs,(b.p _ h.lt (by omega)).k h.bx,h.row.agr (b.agr (by omega)),h.aq,h.lo,h.hX,h.num⟩
def SpS.aa (h:SpS K w R X W q a c D)(b:Below (A (z W)) W W'):SpS K w R X W' q a c D:=h.ac (zt.l b) (h.rd.aa b ly)
def SpS.ab (h:SpS K w R X W q a c D):W.cell? (T X 0 Y)=Q (Z a (B D) c)/\W.frozen? (T X 0 Y)=false:=by
 have hb:=h.bx;constructor;{simp[World.cell?,hb]};{simp[World.frozen?,hb]}
def SpS.G (h:SpS K w R X W q (Q (T g 0 Y)) c D)(b:D[k]?=Q r)(f:j<6)(i:(ddV r)[j]?=Q u):W.cell? (T g (k*6+j) Y)=Q u/\W.frozen? (T g (k*6+j) Y)=false:=iU h.row.u b j f i
def SpS.gb (h:SpS K w R X W q (Q (T g 0 Y)) c D):A (z w)+2<=g/\g<A (z W)/\g≠X/\∃f ZW,W.heap[g]?=Q (N f 62 ZW):=by obtain⟨f,ZW,b⟩:=fS h.row.u g rfl;obtain⟨h1,h2⟩:=cV h.row.u;refine⟨h1,h2,λe=>?_,f,ZW,b⟩;rw[e,h.bx] at b;simp at b
def SpS.put (h:SpS K w R X W q (Q (T g 0 Y)) c D){b:List DR}(hn:B b=B D)(i:DRw (W.setCell (T g j Y) u) (A (z w)+2) (Z (Q (T g 0 Y)) (B D) c) b)(f:∀r∈b,FitK K r.1):SpS K w R X (W.setCell (T g j Y) u) q (Q (T g 0 Y)) c b:=by
 obtain⟨h1,h2,l,cs,ZW,hg⟩:=h.gb;have hl:=h.lo;have ZX:=(a8 (A (z w)+2) W).setCell (p:=(T g j Y)) h1 u;refine⟨h.rd.low ZX (by omega),h.o.then (ZX.P (by omega)),(ZX.p _ (by omega)).k h.rs,?_,?_,f,h.lo,h.hX,by rw[hn];exact h.num⟩;{rw[hn];exact(qh _ _ _ _ (λe=>l e.c)).k h.bx};{rw[hn];exact i}
def SpS.ao (h:SpS K w R X W q (Q (T g 0 Y)) c D)(i:D[k]?=Q r)(l:j<6)(f:ddV r'=(ddV r).set j u)(m:DSub W (A (z w)+2) r')(b:FitK K r'.1):SpS K w R X (W.setCell (T g (k*6+j) Y) u) q (Q (T g 0 Y)) c (D.set k r'):=
 h.put NJ (h.row.ao rfl i l f m) (oI h.aq b)
end
def SpS.fin{R c:Nat}(h:SpS K w R X W q a c D)(f:K<=90)(l:q<=ZO):DAK K w R ZO (ZI (ZJ #[Z a (B D) c])) (W.setCell (T (A (z w)+1) 0 Y) (Z a (B D) c)):=by
 have hl:=h.lo;have ZX:=(a8 (A (z w)) W).setCell (p:=(T (A (z w)+1) 0 Y)) (BV _) (Z a (B D) c);have g:Agr (A (z w)+2) W (W.setCell (T (A (z w)+1) 0 Y) (Z a (B D) c)):=⟨by simp,λk h1 _=>qh _ _ _ _ (by show k≠A (z w)+1;omega)⟩
 exact⟨a,B D,c,_,rfl,(CY (h.row.agr g) rfl (λr b=>(h.aq r b).d f) (by have:=h.num;omega)).P (by omega),⟨q,l,h.rd.low ZX h.lo,h.o.then ZX⟩,h.num,λi hi=>by
  obtain⟨r,b,j⟩:=dG hi;rw[iM b]
  exact h.aq r j⟩
def FitI (x:au):Prop:=FitD x/\x.H.size<=2000/\x.h<=200/\x.f<=200
def FitI.k (h:FitI x):FitK K x:=⟨h.1.nm,by have:=h.2.1;omega,by have:=h.2.2.1;omega,h.1.asz,by have:=h.2.2.2;omega,h.1.lsz⟩
def FitK.L (h:FitK K x)(ZW:Int):FitK K { x with L:=ZW }:=⟨h.nm,h.tx,h.an,h.asz,h.ln,h.lsz⟩
def FitK.M (h:FitK K x)(ZW:Int):FitK K { x with M:=ZW }:=⟨h.nm,h.tx,h.an,h.asz,h.ln,h.lsz⟩
def FitK.H (h:FitK K x)(b:t.size<=2000+K):FitK K { x with H:=t }:=⟨h.nm,b,h.an,h.asz,h.ln,h.lsz⟩
def FitK.e (h:FitK K x)(b:t.size<=5000):FitK K { x with e:=t }:=⟨b,h.tx,h.an,h.asz,h.ln,h.lsz⟩
def DSub.same (h:DSub w b r)(y:au)(f:y.h=r.1.h)(i:y.q=r.1.q)(j:y.f=r.1.f)(g:y.m=r.1.m):DSub w b (y,r.2):=by
 refine⟨?_,?_⟩;{show ZU w b 102 3 r.2.1 y.h (bZ y.q y.h);rw[f,i];exact h.q};{show ZU w b 65 4 r.2.2 y.f (cy y.m y.f);rw[j,g];exact h.az}
def jm (W:E)(g k:Nat)(r:DR):E:=(((((W.setCell (T g (k*6) Y) (U r.1.e)).setCell (T g (k*6+1) Y) (J I r.1.L)).setCell (T g (k*6+2) Y) (J I r.1.M)).setCell (T g (k*6+3) Y) (U r.1.H)).setCell (T g (k*6+4) Y) r.2.1).setCell (T g (k*6+5) Y) r.2.2
def jC{c k:Nat}(h:ZU W b 62 6 (Z (Q (T g 0 Y)) n c) n ((D.set k r).flatMap ddV))(m:k<B D)(i:j<6)(l:ddV r'=(ddV r).set j u):(W.setCell (T g (k*6+j) Y) u).ownsRow b 62 6 (Z (Q (T g 0 Y)) n c) n ((D.set k r').flatMap ddV):=by have f:=gU (j:=k*6+j) h u;rw[ku ddV 6 (λ_=>rfl) i l (D.set k r) k (by rw[PH m]),V5] at f;exact f
def vZ{c k:Nat}(r':DR)(h:ZU W b 62 6 (Z (Q (T g 0 Y)) n c) n (D.flatMap ddV))(p:D[k]?=Q r):(jm W g k r').ownsRow b 62 6 (Z (Q (T g 0 Y)) n c) n ((D.set k r').flatMap ddV):=by
 obtain⟨f,i⟩:=j5.1 p;have m:ZU W b 62 6 (Z (Q (T g 0 Y)) n c) n ((D.set k r).flatMap ddV):=by rw[<-i,List.set_getElem_self];exact h
 have h1:=jC (j:=0) (u:=U r'.1.e) (r':=({ r.1 with e:=r'.1.e },r.2)) m f (by omega) rfl;have h2:=jC (j:=1) (u:=J I r'.1.L) (r':=({ r.1 with e:=r'.1.e,L:=r'.1.L },r.2)) h1 f (by omega) rfl;have q:=jC (j:=2) (u:=J I r'.1.M) (r':=({ r.1 with e:=r'.1.e,L:=r'.1.L,M:=r'.1.M },r.2)) h2 f (by omega) rfl;have o:=jC (j:=3) (u:=U r'.1.H) (r':=({ r.1 with e:=r'.1.e,L:=r'.1.L,M:=r'.1.M,H:=r'.1.H },r.2)) q f (by omega) rfl;have l:=jC (j:=4) (u:=r'.2.1) (r':=({ r.1 with e:=r'.1.e,L:=r'.1.L,M:=r'.1.M,H:=r'.1.H },r'.2.1,r.2.2)) o f (by omega) rfl;exact jC (j:=5) (u:=r'.2.2) (r':=r') l f (by omega) rfl
def fF (W:E)(g k m:Nat)(r:DR)(h:m≠g):(jm W g k r).heap[m]?=W.heap[m]?:=by unfold jm;repeat rw[qh _ _ _ _ (by show m≠g;exact h)]
def qR (W:E)(g k ZX:Nat)(r:DR)(h:ZX<=g):Below ZX W (jm W g k r):=
 ((((((a8 ZX W).setCell (p:=(T g (k*6) Y)) h _).setCell (p:=(T g (k*6+1) Y)) h _).setCell (p:=(T g (k*6+2) Y)) h _).setCell (p:=(T g (k*6+3) Y)) h _).setCell (p:=(T g (k*6+4) Y)) h _).setCell (p:=(T g (k*6+5) Y)) h _
def DSub.far (h:DSub W b r)(g:∀m,r.2.1.ownBlock=Q m->OfTy W m 102->W'.heap[m]?=W.heap[m]?)(f:∀m,r.2.2.ownBlock=Q m->OfTy W m 65->W'.heap[m]?=W.heap[m]?):DSub W' b r:=⟨ew h.q g,ew h.az f⟩
def SpS.deed{R q' c k cl:Nat}(h:SpS K w R X W q (Q (T g 0 Y)) c D)(ZS:D.Pairwise λa b=>Apt a.2.1 b.2.1/\Apt a.2.2 b.2.2)(ZP:D[k]?=Q r)(ZO:r∈D)(M:r.2.2=Z (Q (T o 0 Y)) r.1.f cl)
  (hR:Rd W' R q') (ZM:zt R w W') (keep:∀i,i<A (z W)->i≠R->i≠o->W'.heap[i]?=W.heap[i]?) (r':DR) (hs:DSub W' (A (z w)+2) r') (hf:FitK K r'.1):SpS K w R X (jm W' g k r') q' (Q (T g 0 Y)) c (D.set k r'):=by
 obtain⟨h1,h2,h3,cs,ZW,ZQ⟩:=h.gb;have hlo:=h.lo;have hX:=h.hX;obtain⟨cl2,zl,u⟩:=fS (h.row.sub r ZO).az o (by rw[M];rfl);have hlb:A (z w)+2<=o:=((h.row.sub r ZO).az.lt o (by rw[M];rfl)).1;have V:g≠o:=λe=>by rw[e,u] at ZQ;simp at ZQ
 have S:X≠o:=λe=>by have:=h.bx;rw[e,u] at this;simp at this
 have ZN:=keep g h2 (by omega) V;have ZX:=qR W' g k (A (z w)+2) r' h1;have O:ZU W' (A (z w)+2) 62 6 (Z (Q (T g 0 Y)) (B D) c) (B D) (D.flatMap ddV):=ew h.row.u λm f _=>by
  obtain rfl:g=m:=by simpa[Value.ownBlock] using f
  exact ZN
 have hn:(D.set k r').length=B D:=NJ;have P:∀m e,OfTy W m e->e≠65->A (z w)+2<=m->W'.heap[m]?=W.heap[m]?:=λm e n ZL hb=>by obtain⟨c0,z0,j⟩:=n;exact keep m (aj j) (by omega) λp=>by rw[p,u] at j;simp at j;exact ZL j.2.1.c
 have x:∀s,DSub W' (A (z w)+2) s->DSub (jm W' g k r') (A (z w)+2) s:=λs C=>by
  have G:W'.heap[g]?=Q (N cs 62 ZW):=ZN.k ZQ;refine C.far (λm _ n=>fF _ _ _ _ _ λe=>?_) λm _ n=>fF _ _ _ _ _ λe=>?_;{obtain⟨c0,z0,j⟩:=n;rw[e,G] at j;simp at j};{obtain⟨c0,z0,j⟩:=n;rw[e,G] at j;simp at j}
 refine⟨hR.low ZX (by omega),ZM.then (ZX.P (by omega)),?_,?_,⟨?_,λs C=>?_⟩,oI h.aq hf,h.lo,h.hX,by rw[hn];exact h.num⟩;{exact(ZX.p _ (by omega)).k ((keep _ (aj h.rs) (by omega) (by omega)).k h.rs)};{rw[hn];exact(fF _ _ _ _ _ (λe=>h3 e.c)).k ((keep X h.lt (by omega) S).k h.bx)};{rw[hn];exact vZ r' O ZP}
 ·obtain⟨i,hi⟩:=PE C;by_cases e:i=k;{subst e;rw[PH (by rw[<-hn];exact(j5.1 hi).1)] at hi;obtain rfl:=IN hi;exact x _ hs}
  ·rw[Q2 (λp=>e p.c)] at hi;have t:=J1 hi;refine x s ((h.row.sub s t).far (λm f n=>P m _ n (by decide) ((h.row.sub s t).q.lt m f).1) (λm f n=>?_));obtain⟨c0,z0,j⟩:=n;have hb:=((h.row.sub s t).az.lt m f).1;refine keep m (aj j) (by omega) λp=>?_;obtain⟨ZR,ZT⟩:=j5.1 hi;obtain⟨L,H⟩:=j5.1 ZP;have y:r.2.2.ownBlock=Q o:=by rw[M];rfl
   rcases YO e with ZV|ZV;{have:=(ES.1 ZS i k ZR L ZV).2;rw[ZT,H] at this;rcases this with l|l;{rw[f] at l;cases l};{exact l (by rw[f,y,p])}};{have:=(ES.1 ZS k i L ZR ZV).2;rw[ZT,H] at this;rcases this with l|l;{rw[y] at l;cases l};{exact l (by rw[f,y,p])}}
def SpS.actK{R c p:Nat}(h:SpS K w R X W q (Q (T g 0 Y)) c D)(f:r∈D)(t:r.2.1=Z (Q (T o 0 Y)) r.1.h n)(s:r.2.2=Z (Q (T b 0 Y)) r.1.f p)(keep:∀i,i<A (z W)->i≠R->i≠b->W'.heap[i]?=W.heap[i]?):ZU W' (A (z w)+2) 102 3 (Z (Q (T o 0 Y)) r.1.h n) r.1.h (bZ r.1.q r.1.h):=by have hlo:=h.lo;obtain⟨cl2,zl,l⟩:=fS (h.row.sub r f).az b (by rw[s];rfl);rw[<-t];refine ew (h.row.sub r f).q λm h1 h2=>?_;obtain⟨c0,z0,j⟩:=h2;have hb:=((h.row.sub r f).q.lt m h1).1;exact keep m (aj j) (by omega) (λe=>by rw[e,l] at j;simp at j)
def SpS.kept{R c:Nat}(h:SpS K w R X W q (Q (T g 0 Y)) c D)(o:r∈D)(n:r.2.2=Z (Q (T f 0 Y)) r.1.f m)(keep:∀i,i<A (z W)->i≠R->i≠f->W'.heap[i]?=W.heap[i]?):W'.heap[X]?=W.heap[X]?/\W'.heap[g]?=W.heap[g]?/\g<A (z W'):=by obtain⟨h1,h2,h3,cs,ZW,j⟩:=h.gb;have hlo:=h.lo;have hX:=h.hX;obtain⟨cl2,zl,b⟩:=fS (h.row.sub r o).az f (by rw[n];rfl);have l:=keep g h2 (by omega) (λe=>by rw[e,b] at j;simp at j);exact⟨keep X h.lt (by omega) (λe=>by have:=h.bx;rw[e,b] at this;simp at this),l,aj (l.k j)⟩
def SpS.six{R c k:Nat}(h:SpS K w R X W q (Q (T g 0 Y)) c D)(p:D[k]?=Q r)(r':DR)(u:DSub W (A (z w)+2) r')(n:FitK K r'.1):SpS K w R X (jm W g k r') q (Q (T g 0 Y)) c (D.set k r'):=by
 obtain⟨h1,h2,x,cs,ZW,l⟩:=h.gb;have hlo:=h.lo;have ZX:=qR W g k (A (z w)+2) r' h1;have hn:(D.set k r').length=B D:=NJ;have f:∀s,DSub W (A (z w)+2) s->DSub (jm W g k r') (A (z w)+2) s:=λs b=>by
  refine b.far (λm _ j=>fF _ _ _ _ _ λe=>?_) λm _ j=>fF _ _ _ _ _ λe=>?_;{obtain⟨c0,z0,i⟩:=j;rw[e,l] at i;simp at i};{obtain⟨c0,z0,i⟩:=j;rw[e,l] at i;simp at i}
 refine⟨h.rd.low ZX (by omega),h.o.then (ZX.P (by omega)),(ZX.p _ (by omega)).k h.rs,?_,⟨?_,λs b=>?_⟩,oI h.aq n,h.lo,h.hX,by rw[hn];exact h.num⟩;{rw[hn];exact(fF _ _ _ _ _ (λe=>x e.c)).k h.bx};{rw[hn];exact vZ r' h.row.u p};{rcases OR b with t|rfl;{exact f s (h.row.sub s t)};{exact f _ u}}
def DSub.form{i:Nat}(h:DSub w b r)(m:r.2.1=Z (Q (T j 0 Y)) r.1.h g)(l:r.2.2=Z (Q (T f 0 Y)) r.1.f i):DSub w b (r.1,Z (Q (T j 0 Y)) r.1.h g,Z (Q (T f 0 Y)) r.1.f i):=by rw[<-m,<-l];exact h
def DSub.six{k:Nat}{s:DR}{l:Array ZB}{ZW:Nat × Nat}(h:DSub W b s)(j:W.heap[g]?=Q (N l 62 ZW)):DSub (jm W g k r') b s:=by
 refine h.far (λm _ i=>fF _ _ _ _ _ λe=>?_) λm _ i=>fF _ _ _ _ _ λe=>?_;{obtain⟨c0,z0,f⟩:=i;rw[e,j] at f;simp at f};{obtain⟨c0,z0,f⟩:=i;rw[e,j] at f;simp at f}
variable {K:Nat}
def noR:DR:=(fG,Z Y 0 0,Z Y 0 0)
def Gb (n i:Nat)(h:i<n*6):(dA n)[i]?=(ddV noR)[i % 6]?:=by
 have e:(dA n)[i]?=Q ((Value.agg #[U ⟨#[]⟩,J I 0,J I 0,U ⟨#[]⟩,Z Y 0 0,Z Y 0 0]).cells[i % 6]!):=by unfold dA madeCells;simp[h];rfl
 rw[e];have b:i % 6<6:=UJ _ (by omega);generalize i % 6=j at b;rcases(show j=0\/j=1\/j=2\/j=3\/j=4\/j=5 by omega) with rfl|rfl|rfl|rfl|rfl|rfl<;>rfl
def As (n:Nat):(dA n).toList=(List.replicate n noR).flatMap ddV:=by
 refine UG λi=>?_;by_cases h:i<n*6
 ·have e:i=i / 6*6+i % 6:=by omega
  rw[NT,Gb n i h];conv=>rhs;rw[e]
  rw[cT ddV 6 (λ_=>rfl) _ (i / 6) (i % 6) (by omega) noR (by rw[List.getElem?_replicate,eT (by omega)])]
 {have hz:(dA n).size=n*6:=size_madeCells _ _;rw[NU (by rw[RC,hz];omega),NU (by rw[fA ddV 6 (λ_=>rfl),SF];omega)]}
def CZ (w:E)(b n:Nat)(hb:b<=A (z w))(hn:n<=1000):DRw (w.alloc (N (dA n) 62)) b (Z (Q (T (A (z w)) 0 Y)) n n) (List.replicate n noR):=by
 have hz:(dA n).size=n*6:=size_madeCells _ _;have f:((List.replicate n noR).flatMap ddV).length=n*6:=by rw[fA ddV 6 (λ_=>rfl),SF]
 refine⟨?_,λr g=>?_⟩;{rw[SF];refine⟨f,.inr ⟨A (z w),n,dA n,rfl,hb,gM w _,p7 _,by unfold maxLen;omega,hz,?_⟩⟩;rw[<-As,NV (by rw[RC,hz];omega)]};{rw[List.eq_of_mem_replicate g];exact⟨CP _ _ _ _,CP _ _ _ _⟩}
def Dc{R c:Nat}(h:SpS K w R X W q a c D)(hm:m<=450)(f:q<=ZO):DAK K w R ZO (ZI (ZJ #[Z (Q (T (A (z W)) 0 Y)) m m])) ((W.setCell (T (A (z w)+1) 0 Y) (Z (Q (T (A (z W)) 0 Y)) m m)).alloc (N (dA m) 62)):=by
 have hl:=h.lo;have hx:=h.lt;have hX:=h.hX;have hz:(W.setCell (T (A (z w)+1) 0 Y) (Z (Q (T (A (z W)) 0 Y)) m m)).heap.size=A (z W):=by simp
 have ZX:=((a8 (A (z w)) W).setCell (p:=(T (A (z w)+1) 0 Y)) (BV _) (Z (Q (T (A (z W)) 0 Y)) m m)).alloc (by rw[hz];omega) (N (dA m) 62);have b:=CZ (W.setCell (T (A (z w)+1) 0 Y) (Z (Q (T (A (z W)) 0 Y)) m m)) (A (z w)) m (by rw[hz];omega) (by omega);rw[hz] at b
 exact⟨Q (T (A (z W)) 0 Y),m,m,_,rfl,CY b (by rw[SF]) (λr b=>by rw[List.eq_of_mem_replicate b];exact Ar) (by rw[SF];omega),⟨q,f,h.rd.low ZX h.lo,h.o.then ZX⟩,by omega,λi hi=>by
  rw[iM (r:=noR) (by rw[List.getElem?_replicate,eT hi])]
  exact Ii⟩
def SpS.box_{R c:Nat}{i:O_}{b:List DR}(h:SpS K w R X W q a c D)(C:Below (A (z W)) W W')(l:ZU W' (A (z w)+2) 62 6 (Z i (B b) g) (B b) (b.flatMap ddV))(u:∀r∈b,DSub W' (A (z w)+2) r)(s:∀r∈b,FitK K r.1)(hn:B b<=450+K):SpS K w R X (W'.setCell (T X 0 Y) (Z i (B b) g)) q i g b:=by
 have j:=h.aa C;have hX:=h.hX;have hlo:=h.lo;have ZX:=(a8 (A (z w)+2) W').setCell (p:=(T X 0 Y)) hX (Z i (B b) g);have far:∀m,m≠X->(W'.setCell (T X 0 Y) (Z i (B b) g)).heap[m]?=W'.heap[m]?:=λm x=>qh _ _ _ _ x;have n:∀m e,OfTy W' m e->e≠25->m≠X:=λm e f t ZV=>by obtain⟨c0,z0,y⟩:=f;have:=j.bx;rw[<-ZV,y] at this;simp at this;exact t this.2.1
 refine⟨j.rd.low ZX (by omega),j.o.then (ZX.P (by omega)),(ZX.p _ (by omega)).k j.rs,?_,⟨ew l λm _ f=>far m (n m _ f (by decide)),λr ZW=>(u r ZW).far (λm _ f=>far m (n m _ f (by decide))) (λm _ f=>far m (n m _ f (by decide)))⟩,s,h.lo,h.hX,hn⟩;exact cH j.bx _
def Au{base c k:Nat}(hk:k<B D)(hc:B D<=c):∃f:Addr,(if c=k+1 then Q ((T g 0 Y):Addr) else Q ⟨g,(k+1)*6,Y⟩)=Q f /\
  ∀V:E,ZU V base 62 6 (Z (Q (T g 0 Y)) (B D) c) (B D) (D.flatMap ddV)->∀j u,((D.drop (k+1)).flatMap ddV)[j]?=Q u->V.cell? (f.add j)=Q u:=by
 by_cases h:c=k+1;{refine⟨(T g 0 Y),by rw[eT h],λV i j u b=>?_⟩;rw[List.drop_eq_nil_of_le (by omega)] at b;simp at b}
 ·refine⟨⟨g,(k+1)*6,Y⟩,by rw[eI h],λV i j u b=>?_⟩
  have h1:=i.cells (g:=g) rfl ((k+1)*6+j) u (by
   have e:D.flatMap ddV=(D.take (k+1)).flatMap ddV++(D.drop (k+1)).flatMap ddV:=by rw[<-KE,QO]
   have l:((D.take (k+1)).flatMap ddV).length=(k+1)*6:=by rw[fA ddV 6 (λ_=>rfl),OD,QM (by omega)]
   rw[e,KK (by omega),l,Nat.add_sub_cancel_left]
   exact b)
  rw[gK] at h1 ⊢;rwa[I5] at h1
def Dj{c:Nat}(k:Nat)(h:ZU V b 62 6 (Z (Q (T g 0 Y)) (B D) c) (B D) (D.flatMap ddV)):∀j u,((D.take k).flatMap ddV)[j]?=Q u->V.cell? (((T g 0 Y):Addr).add j)=Q u:=by
 intro j u f;refine h.cells (g:=g) rfl j u ?_;have e:D.flatMap ddV=(D.take k).flatMap ddV++(D.drop k).flatMap ddV:=by rw[<-KE,QO]
 rw[e,NI (j5.1 f).1];exact f
def rV (D:List DR)(h:∀r∈D,Som r):∀u∈D.flatMap ddV,u.oneCell'=true:=by intro u l;obtain⟨r,i,b⟩:=QR.1 l;obtain⟨⟨g,c,f⟩,g',c',j⟩:=h r i;simp only[ddV,f,j,vG,nj,QW] at b;rcases b with rfl|rfl|rfl|rfl|rfl|rfl<;>rfl
