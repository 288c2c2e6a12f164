import Derived.Test.YtcnilonhfpimnaaGreatDoorEA
import Derived.Test.YtcnilonhfpimnaaGreatDoorGY
import Derived.Test.YtcnilonhfpimnaaGreatDoorFZ
set_option linter.all false
open Go renaming Addr.mk->T,Value.slice->Y,Value.string->U,Value.int->J,Value.agg->ZJ,Obj.cells->N,IntKind.i64->I,World->E,Value->ZB,Ending.returned->ZI,World.heap->z,World.ownsRow->ZV,World.setCell->ZU
open Option renaming none->Z,some->Q
open Array renaming size->A
open List renaming length->B
namespace Go.Proofs.YtcnilonhfpimnaaGreatDoor.Vp
open RowKit Ca
variable {w W V W':E}{b g n X q j K f i ZO o m:Nat}{r r':DR}{D R:List DR}{x:au}{a:O_}{u:ZB}{t:F_}
structure FitD (x:au):Prop where
 nm:x.e.size<=5000
 tx:x.H.size<=5000
 an:x.h<=300
 asz:∀j,j<x.h->(x.q j).s.size<=5000
 ln:x.f<=300
 lsz:∀j,j<x.f->(x.m j).e.size<=5000
def FitD.fits (h:FitD x):cX x:=⟨by have:=h.an;omega,by have:=h.ln;omega⟩
def FitD.sized (h:FitD x):fo x:=by
 have h1:=h.nm;have h2:=h.tx;have h3:=h.an;have h5:=h.ln;refine⟨by unfold maxLen;omega,by unfold maxLen;omega,⟨by omega,λj b=>?_⟩,⟨by omega,λj b=>?_⟩⟩;{have:=h.asz j b;unfold maxLen;omega};{have:=h.lsz j b;unfold maxLen;omega}
structure FitK (K:Nat)(x:au):Prop where
 nm:x.e.size<=5000
 tx:x.H.size<=2000+K
 an:x.h<=200+K
 asz:∀j,j<x.h->(x.q j).s.size<=5000
 ln:x.f<=200+K
 lsz:∀j,j<x.f->(x.m j).e.size<=5000
def FitK.d (h:FitK K x)(hK:K<=90):FitD x:=⟨h.nm,by have:=h.tx;omega,by have:=h.an;omega,h.asz,by have:=h.ln;omega,h.lsz⟩
def FitK.up{L:Nat}(h:FitK K x)(hK:K<=L):FitK L x:=⟨h.nm,by have:=h.tx;omega,by have:=h.an;omega,h.asz,by have:=h.ln;omega,h.lsz⟩
def Ii:FitK K fG:=⟨by decide,by show 0<=2000+K;omega,DW _,λj b=>absurd b (by simp[fG]),DW _,λj b=>absurd b (by simp[fG])⟩
def Ar:FitD fG:=⟨by decide,by decide,by decide,λj b=>absurd b (by simp[fG]),by decide,λj b=>absurd b (by simp[fG])⟩
def oY{s:F_}(h:aA s=true):s.size<=60:=by unfold aA at h;rw[j6,nD] at h;exact h.1.2
def Ga (S:xl)(nm:F_):∀x∈bk S (bE S nm).1,FitD x/\x.H.size<=2000/\x.h<=200/\x.f<=200:=by
 obtain⟨y,_,i⟩:=mh S nm;intro x u;obtain⟨e,l,rfl⟩:=NM.1 u;have f:=y.W e l;have r:=i (List.ne_nil_of_mem l);have h1:=oY f.nm;have h2:=f.tx;have ZX:=f.D;have m:(bo S (bE S nm).1 e).f=B e.D:=rfl;have p:(bo S (bE S nm).1 e).h=bP S e:=rfl;have n:bP S e=0\/valid (S.f1 e.tg).q (S.f1 e.tg).h=true/\bP S e=(S.f1 e.tg).h:=by
  rcases f.L with⟨b,_⟩|⟨b,_⟩|⟨b,_,t⟩
  {exact .inl (by unfold bP;rw[eI (by omega)])};{exact .inl (by unfold bP;rw[eI (by omega)])};{refine .inr ⟨r.q _ (bu t).1,?_⟩;unfold bP;rw[eT b]}
 have hn:bP S e<=200:=by
  rcases n with h|⟨h,q⟩
  {omega};{have:=(bJ h).2.2;omega}
 have ZW:∀j,j<bP S e->((S.f1 e.tg).q j).s.size<=5000:=by
  intro j g;rcases n with h|⟨h,q⟩
  {omega}
  ·have b:=j7 (bJ h).1 (show j<_ by omega);unfold cL at b;rw[nD] at b;have hm:bW ((S.f1 e.tg).q j).op<=2000:=by unfold bW;split<;>omega
   omega
 have o:∀j,j<B e.D->(lkF (bE S nm).1 e.D j).e.size<=5000:=by intro j g;rw[lA (gq g)];have:=oY (f.lname _ (gz g));show(e.D[j]).e.size<=5000;omega
 exact⟨⟨by show e.e.size<=_;omega,by show e.H.size<=_;omega,by rw[p];omega,ZW,by rw[m];omega,o⟩,h2,by rw[p];exact hn,by rw[m];exact ZX⟩
structure HAc (base:Nat)(w:E)(a:O_)(n c:Nat)(f:Nat->au):Prop where
 sl:∀V,Agr base w V->SlDeed V a n f
 j_:n<=c
 hn:n<=50000
 aq:∀i,i<n->FitD (f i)
def HAc.agr{c:Nat}{f:Nat->au}(h:HAc b w a n c f)(i:Agr b w V):HAc b V a n c f:=⟨λZN g=>h.sl ZN (i.k g),h.j_,h.hn,h.aq⟩
def HAc.P{c:Nat}{f:Nat->au}(h:HAc b w a n c f)(hb:g<=b):HAc g w a n c f:=⟨λZN i=>h.sl ZN (i.P hb),h.j_,h.hn,h.aq⟩
def DSub.agr (h:DSub w b r)(f:Agr b w V):DSub V b r:=⟨fk h.q f,fk h.az f⟩
def DRow.agr{v:ZB}(h:DRow w b v R)(f:Agr b w V):DRow V b v R:=⟨fk h.u f,λr g=>(h.sub r g).agr f,h.up⟩
def jY{size c:Nat}{e:TypeId}{j:List ZB}(h:ZV w f e size (Y a n c) i j):n<=c:=by
 rcases h.2 with⟨b,h0⟩|⟨g,j_,cur,b,hb,hg,hc,_⟩
 {simp only[IN] at b;omega};{simp only[IN] at b;omega}
def Ja{c:Nat}(h:DRow w b (Y a (B R) c) R)(f:∀r∈R,FitD r.1)(hn:B R<=50000):HAc b w a (B R) c (dF (R.map (·.1))):=by refine⟨λV j=>(h.agr j).bd,jY h.u,hn,λi hi=>?_⟩;obtain⟨r,l,g⟩:=dG hi;rw[iM l];exact f r g
def DAK (K:Nat)(w:E)(R q:Nat)(e:Ending)(b:E):Prop:=∃(a:O_) (n c:Nat) (f:Nat->au),e=ZI (ZJ #[Y a n c])/\HAc (A (z w)) b a n c f/\(∃q':Nat,q'<=q/\Rd b R q'/\zt R w b)/\n<=450+K/\∀i,i<n->FitK K (f i)
def ku {f:Type}(g:f->List ZB)(C:Nat)(b:∀x,(g x).length=C){j:Nat}(i:j<C){x y:f}{u:ZB}(l:g y=(g x).set j u):∀(L:List f) (k:Nat),L[k]?=Q x->(L.flatMap g).set (k*C+j) u=(L.set k y).flatMap g
 |[],k,h=>by simp at h
 |ZX::L,0,h=>by
  obtain rfl:ZX=x:=by simpa using h
  simp only[NZ,List.set_cons_zero,UR,IT];rw[WW _ _ (by rw[b];exact i),l]
 |ZX::L,k+1,h=>by
  have m:L[k]?=Q x:=by simpa using h
  have e:(k+1)*C+j - C=k*C+j:=by rw[Nat.add_mul];omega
  simp only[NZ,VA];rw[T9 _ _ (by rw[b,Nat.add_mul];omega),b,e,ku g C b i l L k m]
structure DRw (w:E)(base:Nat)(v:ZB)(R:List DR):Prop where
 u:ZV w base 62 6 v (B R) (R.flatMap ddV)
 sub:∀r∈R,DSub w base r
def DRow.rw{v:ZB}(h:DRow w b v R):DRw w b v R:=⟨h.u,h.sub⟩
def DRw.agr{v:ZB}(h:DRw w b v R)(f:Agr b w V):DRw V b v R:=⟨fk h.u f,λr g=>(h.sub r g).agr f⟩
def DRw.P{base':Nat}{v:ZB}(h:DRw w b v R)(hb:base'<=b):DRw w base' v R:=⟨aE h.u hb,λr f=>(h.sub r f).P hb⟩
def DRw.aa{g:E}{ZY:Nat}{v:ZB}(h:DRw w b v R)(hb:Below ZY w g)(f:A (z w)<=ZY):DRw g b v R:=⟨J_ h.u hb f,λr i=>(h.sub r i).aa hb f⟩
def DRw.bd{c:Nat}(h:DRw w b (Y a (B R) c) R):SlDeed w a (B R) (dF (R.map (·.1))):=by
 by_cases hz:B R=0;{exact .inl hz}
 ·obtain⟨g,c',e⟩:=dr h.u (by omega);cases e
  refine .inr ⟨g,0,rfl,(cV h.u).2,λi hi=>?_⟩;obtain⟨r,f,l⟩:=dG hi;rw[iM f];have c:∀j,j<6->∀u,(ddV r)[j]?=Q u->w.cell? (T g (0+i*6+j) Z)=Q u:=λj n u s=>by rw[show 0+i*6+j=i*6+j by omega];exact(iU h.u f j n s).1
  obtain⟨m,c4,t,p⟩:=(h.sub r l).ins;obtain⟨o,c5,q,x⟩:=(h.sub r l).m;exact⟨c 0 (by omega) _ rfl,c 1 (by omega) _ rfl,c 2 (by omega) _ rfl,c 3 (by omega) _ rfl,⟨m,c4,by rw[<-t];exact c 4 (by omega) _ rfl,p⟩,⟨o,c5,by rw[<-q];exact c 5 (by omega) _ rfl,x⟩⟩
def CY{c:Nat}(h:DRw w b (Y a n c) R)(e:n=B R)(f:∀r∈R,FitD r.1)(hn:B R<=50000):HAc b w a n c (dF (R.map (·.1))):=by subst e;refine⟨λV j=>(h.agr j).bd,jY h.u,hn,λi hi=>?_⟩;obtain⟨r,l,g⟩:=dG hi;rw[iM l];exact f r g
def DSub.put{i:Array ZB}{fz:Nat × Nat}(h:DSub w b r)(f:w.heap[g]?=Q (N i 62 fz))(u:ZB):DSub (ZU w (T g j Z) u) b r:=
 ⟨dJ h.q f (by decide) u,dJ h.az f (by decide) u⟩
def DRw.ao{c k:Nat}(h:DRw w b (Y (Q (T g 0 Z)) n c) R)(e:n=B R)(s:R[k]?=Q r)(m:j<6)(o:ddV r'=(ddV r).set j u)(q:DSub w b r'):DRw (ZU w (T g (k*6+j) Z) u) b (Y (Q (T g 0 Z)) n c) (R.set k r'):=by
 subst e;obtain⟨cs,ZX,i⟩:=fS h.u g rfl;have l:=gU (j:=k*6+j) h.u u;rw[ku ddV 6 (λ_=>rfl) m o R k s] at l;refine⟨by rw[NI];exact l,λp f=>?_⟩;rcases ON f with h2|rfl;{exact(h.sub p h2).put i u};{exact q.put i u}
def oI{P:au->Prop}{k:Nat}(h:∀r∈R,P r.1)(f:P r'.1):∀r∈R.set k r',P r.1:=λr b=>by
 rcases ON b with h2|rfl
 ·exact h r h2
 ·exact f
variable {K:Nat}
structure SpS (K:Nat)(w:E)(R X:Nat)(W:E)(q:Nat)(a:O_)(c:Nat)(D:List DR):Prop where
 rd:Rd W R q
 o:zt R w W
 rs:W.heap[A (z w)+1]?=Q (N #[Y Z 0 0] 25 (0,0))
 bx:W.heap[X]?=Q (N #[Y a (B D) c] 25 (0,0))
 row:DRw W (A (z w)+2) (Y a (B D) c) D
 aq:∀r∈D,FitK K r.1
 lo:R<A (z w)
 hX:A (z w)+2<=X
 num:B D<=450+K
section
variable {w W W':E}{R X q q' c g k j:Nat}{a:O_}{D:List DR}{r r':DR}{u:ZB}
def SpS.lt (h:SpS K w R X W q a c D):X<A (z W):=aj h.bx
def SpS.ac (h:SpS K w R X W q a c D)(b:zt R W W')(hR:Rd W' R q'):SpS K w R X W' q' a c D:=by have hl:=h.lo;have hx:=h.hX;exact⟨hR,h.o.k b,(b.p _ (aj h.rs) (by omega)).k h.rs,(b.p _ h.lt (by omega)).k h.bx,h.row.agr (b.agr (by omega)),h.aq,h.lo,h.hX,h.num⟩
def SpS.aa (h:SpS K w R X W q a c D)(b:Below (A (z W)) W W'):SpS K w R X W' q a c D:=h.ac (zt.l b) (h.rd.aa b ly)
def SpS.ab (h:SpS K w R X W q a c D):W.cell? (T X 0 Z)=Q (Y a (B D) c)/\W.frozen? (T X 0 Z)=false:=by
 have hb:=h.bx;constructor;{simp[World.cell?,hb]};{simp[World.frozen?,hb]}
def SpS.G (h:SpS K w R X W q (Q (T g 0 Z)) c D)(i:D[k]?=Q r)(f:j<6)(b:(ddV r)[j]?=Q u):W.cell? (T g (k*6+j) Z)=Q u/\W.frozen? (T g (k*6+j) Z)=false:=iU h.row.u i j f b
def SpS.gb (h:SpS K w R X W q (Q (T g 0 Z)) c D):A (z w)+2<=g/\g<A (z W)/\g≠X/\∃f ZX,W.heap[g]?=Q (N f 62 ZX):=by obtain⟨f,ZX,b⟩:=fS h.row.u g rfl;obtain⟨h1,h2⟩:=cV h.row.u;refine⟨h1,h2,λe=>?_,f,ZX,b⟩;rw[e,h.bx] at b;simp at b
def SpS.put (h:SpS K w R X W q (Q (T g 0 Z)) c D){b:List DR}(hn:B b=B D)(l:DRw (ZU W (T g j Z) u) (A (z w)+2) (Y (Q (T g 0 Z)) (B D) c) b)(f:∀r∈b,FitK K r.1):SpS K w R X (ZU W (T g j Z) u) q (Q (T g 0 Z)) c b:=by
 obtain⟨h1,h2,i,cs,ZX,hg⟩:=h.gb;have hl:=h.lo;have ZY:=(a8 (A (z w)+2) W).setCell (p:=(T g j Z)) h1 u;refine⟨h.rd.low ZY (by omega),h.o.then (ZY.P (by omega)),(ZY.p _ (by omega)).k h.rs,?_,?_,f,h.lo,h.hX,by rw[hn];exact h.num⟩;{rw[hn];exact(qh _ _ _ _ (λe=>i e.c)).k h.bx};{rw[hn];exact l}
def SpS.ao (h:SpS K w R X W q (Q (T g 0 Z)) c D)(m:D[k]?=Q r)(f:j<6)(l:ddV r'=(ddV r).set j u)(i:DSub W (A (z w)+2) r')(b:FitK K r'.1):SpS K w R X (ZU W (T g (k*6+j) Z) u) q (Q (T g 0 Z)) c (D.set k r'):=
 h.put NI (h.row.ao rfl m f l i) (oI h.aq b)
end
def SpS.fin{R c:Nat}(h:SpS K w R X W q a c D)(g:K<=90)(f:q<=ZO):DAK K w R ZO (ZI (ZJ #[Y a (B D) c])) (ZU W (T (A (z w)+1) 0 Z) (Y a (B D) c)):=by
 have hl:=h.lo;have ZY:=(a8 (A (z w)) W).setCell (p:=(T (A (z w)+1) 0 Z)) (BV _) (Y a (B D) c);have j:Agr (A (z w)+2) W (ZU W (T (A (z w)+1) 0 Z) (Y a (B D) c)):=⟨by simp,λk h1 _=>qh _ _ _ _ (by show k≠A (z w)+1;omega)⟩
 exact⟨a,B D,c,_,rfl,(CY (h.row.agr j) rfl (λr b=>(h.aq r b).d g) (by have:=h.num;omega)).P (by omega),⟨q,f,h.rd.low ZY h.lo,h.o.then ZY⟩,h.num,λi hi=>by
  obtain⟨r,b,l⟩:=dG hi;rw[iM b]
  exact h.aq r l⟩
def FitI (x:au):Prop:=FitD x/\x.H.size<=2000/\x.h<=200/\x.f<=200
def FitI.k (h:FitI x):FitK K x:=⟨h.1.nm,by have:=h.2.1;omega,by have:=h.2.2.1;omega,h.1.asz,by have:=h.2.2.2;omega,h.1.lsz⟩
def FitK.L (h:FitK K x)(ZX:Int):FitK K { x with L:=ZX }:=⟨h.nm,h.tx,h.an,h.asz,h.ln,h.lsz⟩
def FitK.M (h:FitK K x)(ZX:Int):FitK K { x with M:=ZX }:=⟨h.nm,h.tx,h.an,h.asz,h.ln,h.lsz⟩
def FitK.H (h:FitK K x)(b:t.size<=2000+K):FitK K { x with H:=t }:=⟨h.nm,b,h.an,h.asz,h.ln,h.lsz⟩
def FitK.e (h:FitK K x)(b:t.size<=5000):FitK K { x with e:=t }:=⟨b,h.tx,h.an,h.asz,h.ln,h.lsz⟩
def DSub.same (h:DSub w b r)(y:au)(g:y.h=r.1.h)(j:y.q=r.1.q)(i:y.f=r.1.f)(f:y.m=r.1.m):DSub w b (y,r.2):=by
 refine⟨?_,?_⟩;{show ZV w b 102 3 r.2.1 y.h (bZ y.q y.h);rw[g,j];exact h.q};{show ZV w b 65 4 r.2.2 y.f (cy y.m y.f);rw[i,f];exact h.az}
def jm (W:E)(g k:Nat)(r:DR):E:=ZU (ZU (ZU (ZU (ZU (ZU W (T g (k*6) Z) (U r.1.e)) (T g (k*6+1) Z) (J I r.1.L)) (T g (k*6+2) Z) (J I r.1.M)) (T g (k*6+3) Z) (U r.1.H)) (T g (k*6+4) Z) r.2.1) (T g (k*6+5) Z) r.2.2
def jC{c k:Nat}(h:ZV W b 62 6 (Y (Q (T g 0 Z)) n c) n ((D.set k r).flatMap ddV))(m:k<B D)(i:j<6)(l:ddV r'=(ddV r).set j u):(ZU W (T g (k*6+j) Z) u).ownsRow b 62 6 (Y (Q (T g 0 Z)) n c) n ((D.set k r').flatMap ddV):=by have f:=gU (j:=k*6+j) h u;rw[ku ddV 6 (λ_=>rfl) i l (D.set k r) k (by rw[PE m]),V5] at f;exact f
def vZ{c k:Nat}(r':DR)(h:ZV W b 62 6 (Y (Q (T g 0 Z)) n c) n (D.flatMap ddV))(m:D[k]?=Q r):(jm W g k r').ownsRow b 62 6 (Y (Q (T g 0 Z)) n c) n ((D.set k r').flatMap ddV):=by
 obtain⟨f,i⟩:=j5.1 m;have l:ZV W b 62 6 (Y (Q (T g 0 Z)) n c) n ((D.set k r).flatMap ddV):=by rw[<-i,List.set_getElem_self];exact h
 have h1:=jC (j:=0) (u:=U r'.1.e) (r':=({ r.1 with e:=r'.1.e },r.2)) l f (by omega) rfl;have h2:=jC (j:=1) (u:=J I r'.1.L) (r':=({ r.1 with e:=r'.1.e,L:=r'.1.L },r.2)) h1 f (by omega) rfl;have o:=jC (j:=2) (u:=J I r'.1.M) (r':=({ r.1 with e:=r'.1.e,L:=r'.1.L,M:=r'.1.M },r.2)) h2 f (by omega) rfl;have p:=jC (j:=3) (u:=U r'.1.H) (r':=({ r.1 with e:=r'.1.e,L:=r'.1.L,M:=r'.1.M,H:=r'.1.H },r.2)) o f (by omega) rfl;have q:=jC (j:=4) (u:=r'.2.1) (r':=({ r.1 with e:=r'.1.e,L:=r'.1.L,M:=r'.1.M,H:=r'.1.H },r'.2.1,r.2.2)) p f (by omega) rfl;exact jC (j:=5) (u:=r'.2.2) (r':=r') q f (by omega) rfl
def fF (W:E)(g k m:Nat)(r:DR)(h:m≠g):(jm W g k r).heap[m]?=W.heap[m]?:=by unfold jm;repeat rw[qh _ _ _ _ (by show m≠g;exact h)]
def qR (W:E)(g k ZY:Nat)(r:DR)(h:ZY<=g):Below ZY W (jm W g k r):=
 ((((((a8 ZY W).setCell (p:=(T g (k*6) Z)) h _).setCell (p:=(T g (k*6+1) Z)) h _).setCell (p:=(T g (k*6+2) Z)) h _).setCell (p:=(T g (k*6+3) Z)) h _).setCell (p:=(T g (k*6+4) Z)) h _).setCell (p:=(T g (k*6+5) Z)) h _
def DSub.far (h:DSub W b r)(g:∀m,r.2.1.ownBlock=Q m->OfTy W m 102->W'.heap[m]?=W.heap[m]?)(f:∀m,r.2.2.ownBlock=Q m->OfTy W m 65->W'.heap[m]?=W.heap[m]?):DSub W' b r:=⟨ew h.q g,ew h.az f⟩
def SpS.deed{R q' c k cl:Nat}(h:SpS K w R X W q (Q (T g 0 Z)) c D)(H:D.Pairwise λa b=>Apt a.2.1 b.2.1/\Apt a.2.2 b.2.2)(ZO:D[k]?=Q r)(ZN:r∈D)(M:r.2.2=Y (Q (T o 0 Z)) r.1.f cl)
  (hR:Rd W' R q') (hO:zt R w W') (keep:∀i,i<A (z W)->i≠R->i≠o->W'.heap[i]?=W.heap[i]?) (r':DR) (hs:DSub W' (A (z w)+2) r') (hf:FitK K r'.1):SpS K w R X (jm W' g k r') q' (Q (T g 0 Z)) c (D.set k r'):=by
 obtain⟨h1,h2,h3,ZM,ZX,ZQ⟩:=h.gb;have hlo:=h.lo;have hX:=h.hX;obtain⟨cl2,zl,u⟩:=fS (h.row.sub r ZN).az o (by rw[M];rfl);have hlb:A (z w)+2<=o:=((h.row.sub r ZN).az.lt o (by rw[M];rfl)).1;have ZP:g≠o:=λe=>by rw[e,u] at ZQ;simp at ZQ
 have V:X≠o:=λe=>by have:=h.bx;rw[e,u] at this;simp at this
 have S:=keep g h2 (by omega) ZP;have ZY:=qR W' g k (A (z w)+2) r' h1;have O:ZV W' (A (z w)+2) 62 6 (Y (Q (T g 0 Z)) (B D) c) (B D) (D.flatMap ddV):=ew h.row.u λm f _=>by
  obtain rfl:g=m:=by simpa[Value.ownBlock] using f
  exact S
 have hn:(D.set k r').length=B D:=NI;have P:∀m e,OfTy W m e->e≠65->A (z w)+2<=m->W'.heap[m]?=W.heap[m]?:=λm e l ZL hb=>by obtain⟨c0,z0,j⟩:=l;exact keep m (aj j) (by omega) λp=>by rw[p,u] at j;simp at j;exact ZL j.2.1.c
 have y:∀s,DSub W' (A (z w)+2) s->DSub (jm W' g k r') (A (z w)+2) s:=λs ZW=>by
  have G:W'.heap[g]?=Q (N ZM 62 ZX):=S.k ZQ;refine ZW.far (λm _ l=>fF _ _ _ _ _ λe=>?_) λm _ l=>fF _ _ _ _ _ λe=>?_;{obtain⟨c0,z0,j⟩:=l;rw[e,G] at j;simp at j};{obtain⟨c0,z0,j⟩:=l;rw[e,G] at j;simp at j}
 refine⟨hR.low ZY (by omega),hO.then (ZY.P (by omega)),?_,?_,⟨?_,λs ZW=>?_⟩,oI h.aq hf,h.lo,h.hX,by rw[hn];exact h.num⟩;{exact(ZY.p _ (by omega)).k ((keep _ (aj h.rs) (by omega) (by omega)).k h.rs)};{rw[hn];exact(fF _ _ _ _ _ (λe=>h3 e.c)).k ((keep X h.lt (by omega) V).k h.bx)};{rw[hn];exact vZ r' O ZO}
 ·obtain⟨i,hi⟩:=PD ZW;by_cases e:i=k;{subst e;rw[PE (by rw[<-hn];exact(j5.1 hi).1)] at hi;obtain rfl:=IH hi;exact y _ hs}
  ·rw[QZ (λp=>e p.c)] at hi;have x:=I5 hi;refine y s ((h.row.sub s x).far (λm f l=>P m _ l (by decide) ((h.row.sub s x).q.lt m f).1) (λm f l=>?_));obtain⟨c0,z0,j⟩:=l;have hb:=((h.row.sub s x).az.lt m f).1;refine keep m (aj j) (by omega) λp=>?_;obtain⟨L,ZR⟩:=j5.1 hi;obtain⟨ZT,ZS⟩:=j5.1 ZO;have C:r.2.2.ownBlock=Q o:=by rw[M];rfl
   rcases YO e with t|t;{have:=(D0.1 H i k L ZT t).2;rw[ZR,ZS] at this;rcases this with n|n;{rw[f] at n;cases n};{exact n (by rw[f,C,p])}};{have:=(D0.1 H k i ZT L t).2;rw[ZR,ZS] at this;rcases this with n|n;{rw[C] at n;cases n};{exact n (by rw[f,C,p])}}
def SpS.actK{R c p l:Nat}(h:SpS K w R X W q (Q (T g 0 Z)) c D)(f:r∈D)(t:r.2.1=Y (Q (T o 0 Z)) r.1.h l)(s:r.2.2=Y (Q (T b 0 Z)) r.1.f p)(keep:∀i,i<A (z W)->i≠R->i≠b->W'.heap[i]?=W.heap[i]?):ZV W' (A (z w)+2) 102 3 (Y (Q (T o 0 Z)) r.1.h l) r.1.h (bZ r.1.q r.1.h):=by have hlo:=h.lo;obtain⟨cl2,zl,n⟩:=fS (h.row.sub r f).az b (by rw[s];rfl);rw[<-t];refine ew (h.row.sub r f).q λm h1 h2=>?_;obtain⟨c0,z0,j⟩:=h2;have hb:=((h.row.sub r f).q.lt m h1).1;exact keep m (aj j) (by omega) (λe=>by rw[e,n] at j;simp at j)
def SpS.kept{R c:Nat}(h:SpS K w R X W q (Q (T g 0 Z)) c D)(o:r∈D)(n:r.2.2=Y (Q (T f 0 Z)) r.1.f m)(keep:∀i,i<A (z W)->i≠R->i≠f->W'.heap[i]?=W.heap[i]?):W'.heap[X]?=W.heap[X]?/\W'.heap[g]?=W.heap[g]?/\g<A (z W'):=by obtain⟨h1,h2,h3,cs,ZX,j⟩:=h.gb;have hlo:=h.lo;have hX:=h.hX;obtain⟨cl2,zl,b⟩:=fS (h.row.sub r o).az f (by rw[n];rfl);have l:=keep g h2 (by omega) (λe=>by rw[e,b] at j;simp at j);exact⟨keep X h.lt (by omega) (λe=>by have:=h.bx;rw[e,b] at this;simp at this),l,aj (l.k j)⟩
def SpS.six{R c k:Nat}(h:SpS K w R X W q (Q (T g 0 Z)) c D)(x:D[k]?=Q r)(r':DR)(u:DSub W (A (z w)+2) r')(p:FitK K r'.1):SpS K w R X (jm W g k r') q (Q (T g 0 Z)) c (D.set k r'):=by
 obtain⟨h1,h2,n,cs,ZX,l⟩:=h.gb;have hlo:=h.lo;have ZY:=qR W g k (A (z w)+2) r' h1;have hn:(D.set k r').length=B D:=NI;have b:∀s,DSub W (A (z w)+2) s->DSub (jm W g k r') (A (z w)+2) s:=λs f=>by
  refine f.far (λm _ j=>fF _ _ _ _ _ λe=>?_) λm _ j=>fF _ _ _ _ _ λe=>?_;{obtain⟨c0,z0,i⟩:=j;rw[e,l] at i;simp at i};{obtain⟨c0,z0,i⟩:=j;rw[e,l] at i;simp at i}
 refine⟨h.rd.low ZY (by omega),h.o.then (ZY.P (by omega)),(ZY.p _ (by omega)).k h.rs,?_,⟨?_,λs f=>?_⟩,oI h.aq p,h.lo,h.hX,by rw[hn];exact h.num⟩;{rw[hn];exact(fF _ _ _ _ _ (λe=>n e.c)).k h.bx};{rw[hn];exact vZ r' h.row.u x};{rcases ON f with t|rfl;{exact b s (h.row.sub s t)};{exact b _ u}}
def DSub.form (h:DSub w b r)(m:r.2.1=Y (Q (T g 0 Z)) r.1.h i)(l:r.2.2=Y (Q (T f 0 Z)) r.1.f j):DSub w b (r.1,Y (Q (T g 0 Z)) r.1.h i,Y (Q (T f 0 Z)) r.1.f j):=by rw[<-m,<-l];exact h
def DSub.six{k:Nat}{s:DR}{l:Array ZB}{ZX:Nat × Nat}(h:DSub W b s)(j:W.heap[g]?=Q (N l 62 ZX)):DSub (jm W g k r') b s:=by
 refine h.far (λm _ i=>fF _ _ _ _ _ λe=>?_) λm _ i=>fF _ _ _ _ _ λe=>?_;{obtain⟨c0,z0,f⟩:=i;rw[e,j] at f;simp at f};{obtain⟨c0,z0,f⟩:=i;rw[e,j] at f;simp at f}
variable {K:Nat}
def noR:DR:=(fG,Y Z 0 0,Y Z 0 0)
def Gb (n i:Nat)(h:i<n*6):(dA n)[i]?=(ddV noR)[i % 6]?:=by
 have e:(dA n)[i]?=Q ((Value.agg #[U ⟨#[]⟩,J I 0,J I 0,U ⟨#[]⟩,Y Z 0 0,Y Z 0 0]).cells[i % 6]!):=by unfold dA madeCells;simp[h];rfl
 rw[e];have b:i % 6<6:=UJ _ (by omega);generalize i % 6=j at b;rcases(show j=0\/j=1\/j=2\/j=3\/j=4\/j=5 by omega) with rfl|rfl|rfl|rfl|rfl|rfl<;>rfl
def As (n:Nat):(dA n).toList=(List.replicate n noR).flatMap ddV:=by
 refine UG λi=>?_;by_cases h:i<n*6
 ·have e:i=i / 6*6+i % 6:=by omega
  rw[NS,Gb n i h];conv=>rhs;rw[e]
  rw[cT ddV 6 (λ_=>rfl) _ (i / 6) (i % 6) (by omega) noR (by rw[List.getElem?_replicate,eT (by omega)])]
 {have hz:(dA n).size=n*6:=size_madeCells _ _;rw[NT (by rw[Q9,hz];omega),NT (by rw[fA ddV 6 (λ_=>rfl),SF];omega)]}
def CZ (w:E)(b n:Nat)(hb:b<=A (z w))(hn:n<=1000):DRw (w.alloc (N (dA n) 62)) b (Y (Q (T (A (z w)) 0 Z)) n n) (List.replicate n noR):=by
 have hz:(dA n).size=n*6:=size_madeCells _ _;have f:((List.replicate n noR).flatMap ddV).length=n*6:=by rw[fA ddV 6 (λ_=>rfl),SF]
 refine⟨?_,λr g=>?_⟩;{rw[SF];refine⟨f,.inr ⟨A (z w),n,dA n,rfl,hb,gM w _,p7 _,by unfold maxLen;omega,hz,?_⟩⟩;rw[<-As,NU (by rw[Q9,hz];omega)]};{rw[List.eq_of_mem_replicate g];exact⟨CP _ _ _ _,CP _ _ _ _⟩}
def Dc{R c:Nat}(h:SpS K w R X W q a c D)(hm:m<=450)(f:q<=ZO):DAK K w R ZO (ZI (ZJ #[Y (Q (T (A (z W)) 0 Z)) m m])) ((ZU W (T (A (z w)+1) 0 Z) (Y (Q (T (A (z W)) 0 Z)) m m)).alloc (N (dA m) 62)):=by
 have hl:=h.lo;have hx:=h.lt;have hX:=h.hX;have hz:A (z (ZU W (T (A (z w)+1) 0 Z) (Y (Q (T (A (z W)) 0 Z)) m m)))=A (z W):=by simp
 have ZY:=((a8 (A (z w)) W).setCell (p:=(T (A (z w)+1) 0 Z)) (BV _) (Y (Q (T (A (z W)) 0 Z)) m m)).alloc (by rw[hz];omega) (N (dA m) 62);have b:=CZ (ZU W (T (A (z w)+1) 0 Z) (Y (Q (T (A (z W)) 0 Z)) m m)) (A (z w)) m (by rw[hz];omega) (by omega);rw[hz] at b
 exact⟨Q (T (A (z W)) 0 Z),m,m,_,rfl,CY b (by rw[SF]) (λr b=>by rw[List.eq_of_mem_replicate b];exact Ar) (by rw[SF];omega),⟨q,f,h.rd.low ZY h.lo,h.o.then ZY⟩,by omega,λi hi=>by
  rw[iM (r:=noR) (by rw[List.getElem?_replicate,eT hi])]
  exact Ii⟩
def SpS.box_{R c:Nat}{i:O_}{b:List DR}(h:SpS K w R X W q a c D)(s:Below (A (z W)) W W')(l:ZV W' (A (z w)+2) 62 6 (Y i (B b) j) (B b) (b.flatMap ddV))(ZW:∀r∈b,DSub W' (A (z w)+2) r)(x:∀r∈b,FitK K r.1)(hn:B b<=450+K):SpS K w R X (ZU W' (T X 0 Z) (Y i (B b) j)) q i j b:=by
 have g:=h.aa s;have hX:=h.hX;have hlo:=h.lo;have ZY:=(a8 (A (z w)+2) W').setCell (p:=(T X 0 Z)) hX (Y i (B b) j);have far:∀m,m≠X->(ZU W' (T X 0 Z) (Y i (B b) j)).heap[m]?=W'.heap[m]?:=λm y=>qh _ _ _ _ y;have n:∀m e,OfTy W' m e->e≠25->m≠X:=λm e f t ZX=>by obtain⟨c0,z0,C⟩:=f;have:=g.bx;rw[<-ZX,C] at this;simp at this;exact t this.2.1
 refine⟨g.rd.low ZY (by omega),g.o.then (ZY.P (by omega)),(ZY.p _ (by omega)).k g.rs,?_,⟨ew l λm _ f=>far m (n m _ f (by decide)),λr u=>(ZW r u).far (λm _ f=>far m (n m _ f (by decide))) (λm _ f=>far m (n m _ f (by decide)))⟩,x,h.lo,h.hX,hn⟩;exact cH g.bx _
def Au{base c k:Nat}(hk:k<B D)(hc:B D<=c):∃i:Addr,(if c=k+1 then Q ((T g 0 Z):Addr) else Q ⟨g,(k+1)*6,Z⟩)=Q i /\
  ∀V:E,ZV V base 62 6 (Y (Q (T g 0 Z)) (B D) c) (B D) (D.flatMap ddV)->∀j u,((D.drop (k+1)).flatMap ddV)[j]?=Q u->V.cell? (i.add j)=Q u:=by
 by_cases h:c=k+1;{refine⟨(T g 0 Z),by rw[eT h],λV f j u b=>?_⟩;rw[List.drop_eq_nil_of_le (by omega)] at b;simp at b}
 ·refine⟨⟨g,(k+1)*6,Z⟩,by rw[eI h],λV f j u b=>?_⟩
  have h1:=f.cells (g:=g) rfl ((k+1)*6+j) u (by
   have e:D.flatMap ddV=(D.take (k+1)).flatMap ddV++(D.drop (k+1)).flatMap ddV:=by rw[<-J1,QN]
   have l:((D.take (k+1)).flatMap ddV).length=(k+1)*6:=by rw[fA ddV 6 (λ_=>rfl),N9,QL (by omega)]
   rw[e,KK (by omega),l,Nat.add_sub_cancel_left]
   exact b)
  rw[gK] at h1 ⊢;rwa[IT] at h1
def Dj{c:Nat}(k:Nat)(h:ZV V b 62 6 (Y (Q (T g 0 Z)) (B D) c) (B D) (D.flatMap ddV)):∀j u,((D.take k).flatMap ddV)[j]?=Q u->V.cell? (((T g 0 Z):Addr).add j)=Q u:=by
 intro j u f;refine h.cells (g:=g) rfl j u ?_;have e:D.flatMap ddV=(D.take k).flatMap ddV++(D.drop k).flatMap ddV:=by rw[<-J1,QN]
 rw[e,NH (j5.1 f).1];exact f
def rV (D:List DR)(h:∀r∈D,Som r):∀u∈D.flatMap ddV,u.oneCell'=true:=by intro u l;obtain⟨r,i,b⟩:=QP.1 l;obtain⟨⟨g,c,f⟩,g',c',j⟩:=h r i;simp only[ddV,f,j,vG,nj,QV] at b;rcases b with rfl|rfl|rfl|rfl|rfl|rfl<;>rfl
