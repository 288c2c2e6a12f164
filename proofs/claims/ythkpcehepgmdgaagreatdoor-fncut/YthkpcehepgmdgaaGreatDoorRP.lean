import Derived.Test.YthkpcehepgmdgaaGreatDoorRB
import Derived.Test.YthkpcehepgmdgaaGreatDoorRA
import Derived.Test.YthkpcehepgmdgaaGreatDoorSA
open Go renaming Addr.mk->Q,Value.slice->Z,Value.string->U,Value.int->J,Value.agg->ZH,Obj.cells->N,IntKind.i64->I,World->G,Value->ZD,Ending.returned->ZG,World.ownsRow->ZU,World.setCell->A
open Option renaming none->Y,some->T
open List renaming length->ZT
namespace Go.Proofs.YthkpcehepgmdgaaGreatDoor.Vp
open RowKit Ca
variable {w W V W':G}{b g n X q j K ZN o i:Nat}{r r':DR}{D R:List DR}{a:Option Addr}{x:af}{f:Nat->af}{u:ZD}{t:ByteArray}
structure FitD (x:af):Prop where
 nm:x.e.size<=5000
 tx:x.B.size<=5000
 an:x.l<=300
 asz:∀j,j<x.l->(x.u j).s.size<=5000
 ln:x.f<=300
 lsz:∀j,j<x.f->(x.m j).e.size<=5000
theorem FitD.fits (h:FitD x):bJ x:=⟨by have:=h.an;omega,by have:=h.ln;omega⟩
theorem FitD.sized (h:FitD x):eY x:=by
 have h1:=h.nm;have h2:=h.tx;have h3:=h.an;have h5:=h.ln;refine⟨by unfold maxLen;omega,by unfold maxLen;omega,⟨by omega,λj b=>?_⟩,⟨by omega,λj b=>?_⟩⟩;{have:=h.asz j b;unfold maxLen;omega};{have:=h.lsz j b;unfold maxLen;omega}
structure FitK (K:Nat)(x:af):Prop where
 nm:x.e.size<=5000
 tx:x.B.size<=2000+K
 an:x.l<=200+K
 asz:∀j,j<x.l->(x.u j).s.size<=5000
 ln:x.f<=200+K
 lsz:∀j,j<x.f->(x.m j).e.size<=5000
theorem FitK.d (h:FitK K x)(hK:K<=90):FitD x:=⟨h.nm,by have:=h.tx;omega,by have:=h.an;omega,h.asz,by have:=h.ln;omega,h.lsz⟩
theorem FitK.up{L:Nat}(h:FitK K x)(hK:K<=L):FitK L x:=⟨h.nm,by have:=h.tx;omega,by have:=h.an;omega,h.asz,by have:=h.ln;omega,h.lsz⟩
theorem Fu:FitK K fk:=⟨by decide,by show 0<=2000+K;omega,DN _,λj b=>absurd b (by simp[fk]),DN _,λj b=>absurd b (by simp[fk])⟩
theorem yP:FitD fk:=⟨by decide,by decide,by decide,λj b=>absurd b (by simp[fk]),by decide,λj b=>absurd b (by simp[fk])⟩
theorem nY{s:ByteArray}(h:av s=true):s.size<=60:=by unfold av at h;rw[j5,nX] at h;exact h.1.2
theorem uF (S:Spc)(nm:ByteArray):∀x∈aV S (bQ S nm).1,FitD x/\x.B.size<=2000/\x.l<=200/\x.f<=200:=by
 obtain⟨u,_,p⟩:=pH S nm;intro x y;obtain⟨e,i,rfl⟩:=LA.1 y;have f:=u.bd e i;have r:=p (List.ne_nil_of_mem i);have h1:=nY f.nm;have h2:=f.tx;have q:=f.D;have o:(bv S (bQ S nm).1 e).f=ZT e.D:=rfl;have l:(bv S (bQ S nm).1 e).l=dh S e:=rfl;have m:dh S e=0∨valid (S.f1 e.tg).u (S.f1 e.tg).l=true/\dh S e=(S.f1 e.tg).l:=by
  rcases f.H with ⟨b,_⟩|⟨b,_⟩|⟨b,_,z⟩
  {exact .inl (by unfold dh;rw[eT (by omega)])};{exact .inl (by unfold dh;rw[eT (by omega)])};{refine .inr ⟨r.u _ (bN z).1,?_⟩;unfold dh;rw[hU b]}
 have hn:dh S e<=200:=by
  rcases m with h|⟨h,t⟩
  {omega};{have:=(bO h).2.2;omega}
 have ZV:∀j,j<dh S e->((S.f1 e.tg).u j).s.size<=5000:=by
  intro j g;rcases m with h|⟨h,t⟩
  {omega}
  ·have b:=jC (bO h).1 (show j<_ by omega);unfold cF at b;rw[nX] at b;have hm:bR ((S.f1 e.tg).u j).op<=2000:=by unfold bR;split<;>omega
   omega
 have n:∀j,j<ZT e.D->(lkF (bQ S nm).1 e.D j).e.size<=5000:=by intro j g;rw[kF (gq g)];have:=nY (f.lname _ (gz g));show(e.D[j]).e.size<=5000;omega
 exact⟨⟨by show e.e.size<=_;omega,by show e.B.size<=_;omega,by rw[l];omega,ZV,by rw[o];omega,n⟩,h2,by rw[l];exact hn,by rw[o];exact q⟩
structure HAc (base:Nat)(w:G)(a:Option Addr)(n c:Nat)(f:Nat->af):Prop where
 sl:∀V,Agr base w V->SlDeed V a n f
 cap:n<=c
 hn:n<=50000
 aq:∀i,i<n->FitD (f i)
theorem HAc.agr{c:Nat}(h:HAc b w a n c f)(g:Agr b w V):HAc b V a n c f:=⟨λZL i=>h.sl ZL (g.trans i),h.cap,h.hn,h.aq⟩
theorem HAc.mono{b':Nat}{c:Nat}(h:HAc b w a n c f)(hb:b'<=b):HAc b' w a n c f:=⟨λZL g=>h.sl ZL (g.mono hb),h.cap,h.hn,h.aq⟩
theorem HAc.here{c:Nat}(h:HAc b w a n c f):SlDeed w a n f:=h.sl w (Agr.refl _ _)
theorem DSub.agr (h:DSub w b r)(f:Agr b w V):DSub V b r:=⟨eW h.u f,eW h.am f⟩
theorem DRow.agr{v:ZD}(h:DRow w b v R)(f:Agr b w V):DRow V b v R:=⟨eW h.y f,λr g=>(h.sub r g).agr f,h.up⟩
theorem ie{f size c:Nat}{e:TypeId}{i:List ZD}(h:ZU w f e size (Z a n c) j i):n<=c:=by
 rcases h.2 with ⟨b,h0⟩|⟨g,cap,cur,b,hb,hg,hc,_⟩
 {simp only[KU] at b;omega};{simp only[KU] at b;omega}
theorem Gs{c:Nat}(h:DRow w b (Z a (ZT R) c) R)(l:∀r∈R,FitD r.1)(hn:ZT R<=50000):HAc b w a (ZT R) c (dF (R.map (·.1))):=by refine⟨λV j=>(h.agr j).bb,ie h.y,hn,λi hi=>?_⟩;obtain⟨r,g,f⟩:=dJ hi;rw[ii g];exact l r f
def DAK (K:Nat)(w:G)(R q:Nat)(e:Ending)(b:G):Prop:=∃(a:Option Addr) (n c:Nat) (f:Nat->af),e=ZG (ZH #[Z a n c])/\HAc w.heap.size b a n c f/\(∃q':Nat,q'<=q/\Rd b R q'/\Only R w b)/\n<=450+K/\∀i,i<n->FitK K (f i)
theorem jO {f:Type}(g:f->List ZD)(C:Nat)(b:∀x,(g x).length=C){j:Nat}(l:j<C){x y:f}{u:ZD}(i:g y=(g x).set j u):∀(L:List f) (k:Nat),L[k]?=T x->(L.flatMap g).set (k*C+j) u=(L.set k y).flatMap g
 |[],k,h=>by simp at h
 |z::L,0,h=>by
  obtain rfl:z=x:=by simpa using h
  simp only[LI,List.set_cons_zero,T8,E4];rw[TN _ _ (by rw[b];exact l),i]
 |z::L,k+1,h=>by
  have m:L[k]?=T x:=by simpa using h
  have e:(k+1)*C+j - C=k*C+j:=by rw[Nat.add_mul];omega
  simp only[LI,QX];rw[P6 _ _ (by rw[b,Nat.add_mul];omega),b,e,jO g C b l i L k m]
structure DRw (w:G)(base:Nat)(v:ZD)(R:List DR):Prop where
 y:ZU w base 44 6 v (ZT R) (R.flatMap ddV)
 sub:∀r∈R,DSub w base r
theorem DRow.rw{v:ZD}(h:DRow w b v R):DRw w b v R:=⟨h.y,h.sub⟩
theorem DRw.agr{v:ZD}(h:DRw w b v R)(f:Agr b w V):DRw V b v R:=⟨eW h.y f,λr g=>(h.sub r g).agr f⟩
theorem DRw.mono{base':Nat}{v:ZD}(h:DRw w b v R)(hb:base'<=b):DRw w base' v R:=⟨aA h.y hb,λr f=>(h.sub r f).mono hb⟩
theorem DRw.aa{g:G}{B:Nat}{v:ZD}(h:DRw w b v R)(hb:Below B w g)(f:w.heap.size<=B):DRw g b v R:=⟨own_below h.y hb f,λr i=>(h.sub r i).aa hb f⟩
theorem DRw.bb{c:Nat}(h:DRw w b (Z a (ZT R) c) R):SlDeed w a (ZT R) (dF (R.map (·.1))):=by
 by_cases hz:ZT R=0;{exact .inl hz}
 ·obtain⟨g,c',e⟩:=bV h.y (by omega);cases e
  refine .inr ⟨g,0,rfl,(cu h.y).2,λi hi=>?_⟩;obtain⟨r,l,f⟩:=dJ hi;rw[ii l];have c:∀j,j<6->∀u,(ddV r)[j]?=T u->w.cell? (Q g (0+i*6+j) Y)=T u:=λj q u x=>by rw[show 0+i*6+j=i*6+j by omega];exact(gy h.y l j q x).1
  obtain⟨p,c4,n,s⟩:=(h.sub r f).ins;obtain⟨m,c5,t,o⟩:=(h.sub r f).m;exact⟨c 0 (by omega) _ rfl,c 1 (by omega) _ rfl,c 2 (by omega) _ rfl,c 3 (by omega) _ rfl,⟨p,c4,by rw[<-n];exact c 4 (by omega) _ rfl,s⟩,⟨m,c5,by rw[<-t];exact c 5 (by omega) _ rfl,o⟩⟩
theorem Az{c:Nat}(h:DRw w b (Z a n c) R)(e:n=ZT R)(l:∀r∈R,FitD r.1)(hn:ZT R<=50000):HAc b w a n c (dF (R.map (·.1))):=by subst e;refine⟨λV j=>(h.agr j).bb,ie h.y,hn,λi hi=>?_⟩;obtain⟨r,g,f⟩:=dJ hi;rw[ii g];exact l r f
theorem DSub.put{i:Array ZD}{fz:Nat × Nat}(h:DSub w b r)(f:w.heap[g]?=T (N i 44 fz))(u:ZD):DSub (A w (Q g j Y) u) b r :=
 ⟨dM h.u f (by decide) u,dM h.am f (by decide) u⟩
theorem DRw.ad{c k:Nat}(h:DRw w b (Z (T (Q g 0 Y)) n c) R)(e:n=ZT R)(m:R[k]?=T r)(s:j<6)(o:ddV r'=(ddV r).set j u)(p:DSub w b r'):DRw (A w (Q g (k*6+j) Y) u) b (Z (T (Q g 0 Y)) n c) (R.set k r'):=by
 subst e;obtain⟨cs,z,i⟩:=eF h.y g rfl;have f:=gG (j:=k*6+j) h.y u;rw[jO ddV 6 (λ_=>rfl) s o R k m] at f;refine⟨by rw[KP];exact f,λq l=>?_⟩;rcases LN l with h2|rfl;{exact(h.sub q h2).put i u};{exact p.put i u}
theorem nF{P:af->Prop}{k:Nat}(h:∀r∈R,P r.1)(f:P r'.1):∀r∈R.set k r',P r.1:=λr b=>by
 rcases LN b with h2|rfl
 ·exact h r h2
 ·exact f
variable {K:Nat}
structure SpS (K:Nat)(w:G)(R X:Nat)(W:G)(q:Nat)(a:Option Addr)(c:Nat)(D:List DR):Prop where
 rd:Rd W R q
 o:Only R w W
 rs:W.heap[w.heap.size+1]?=T (N #[Z Y 0 0] 25 (0,0))
 bx:W.heap[X]?=T (N #[Z a (ZT D) c] 25 (0,0))
 row:DRw W (w.heap.size+2) (Z a (ZT D) c) D
 aq:∀r∈D,FitK K r.1
 lo:R<w.heap.size
 hX:w.heap.size+2<=X
 num:ZT D<=450+K
section
variable {w W W':G}{R X q q' c g k j:Nat}{a:Option Addr}{D:List DR}{r r':DR}{u:ZD}
theorem SpS.lt (h:SpS K w R X W q a c D):X<W.heap.size:=ag h.bx
theorem SpS.ac (h:SpS K w R X W q a c D)(b:Only R W W')(hR:Rd W' R q'):SpS K w R X W' q' a c D:=by have hl:=h.lo;have hx:=h.hX;exact⟨hR,h.o.trans b,(b.block _ (ag h.rs) (by omega)).trans h.rs,(b.block _ h.lt (by omega)).trans h.bx,h.row.agr (b.agr (by omega)),h.aq,h.lo,h.hX,h.num⟩
theorem SpS.aa (h:SpS K w R X W q a c D)(b:Below W.heap.size W W'):SpS K w R X W' q a c D:=h.ac (Only.q b) (h.rd.aa b ly)
theorem SpS.M (h:SpS K w R X W q a c D):W.cell? (Q X 0 Y)=T (Z a (ZT D) c)/\W.frozen? (Q X 0 Y)=false:=by
 have hb:=h.bx;constructor;{simp[World.cell?,hb]};{simp[World.frozen?,hb]}
theorem SpS.L (h:SpS K w R X W q (T (Q g 0 Y)) c D)(b:D[k]?=T r)(f:j<6)(i:(ddV r)[j]?=T u):W.cell? (Q g (k*6+j) Y)=T u/\W.frozen? (Q g (k*6+j) Y)=false:=gy h.row.y b j f i
theorem SpS.gb (h:SpS K w R X W q (T (Q g 0 Y)) c D):w.heap.size+2<=g/\g<W.heap.size/\g≠X/\∃f z,W.heap[g]?=T (N f 44 z):=by obtain⟨f,z,b⟩:=eF h.row.y g rfl;obtain⟨h1,h2⟩:=cu h.row.y;refine⟨h1,h2,λe=>?_,f,z,b⟩;rw[e,h.bx] at b;simp at b
theorem SpS.put (h:SpS K w R X W q (T (Q g 0 Y)) c D){b:List DR}(hn:ZT b=ZT D)(f:DRw (A W (Q g j Y) u) (w.heap.size+2) (Z (T (Q g 0 Y)) (ZT D) c) b)(l:∀r∈b,FitK K r.1):SpS K w R X (A W (Q g j Y) u) q (T (Q g 0 Y)) c b:=by
 obtain⟨h1,h2,i,cs,z,hg⟩:=h.gb;have hl:=h.lo;have B:=(cM (w.heap.size+2) W).setCell (p:=(Q g j Y)) h1 u;refine⟨h.rd.low B (by omega),h.o.then (B.mono (by omega)),(B.block _ (by omega)).trans h.rs,?_,?_,l,h.lo,h.hX,by rw[hn];exact h.num⟩;{rw[hn];exact(qh _ _ _ _ (λe=>i e.symm)).trans h.bx};{rw[hn];exact f}
theorem SpS.ad (h:SpS K w R X W q (T (Q g 0 Y)) c D)(b:D[k]?=T r)(i:j<6)(f:ddV r'=(ddV r).set j u)(m:DSub W (w.heap.size+2) r')(l:FitK K r'.1):SpS K w R X (A W (Q g (k*6+j) Y) u) q (T (Q g 0 Y)) c (D.set k r') :=
 h.put KP (h.row.ad rfl b i f m) (nF h.aq l)
end
theorem SpS.fin{R c:Nat}(h:SpS K w R X W q a c D)(g:K<=90)(l:q<=ZN):DAK K w R ZN (ZG (ZH #[Z a (ZT D) c])) (A W (Q (w.heap.size+1) 0 Y) (Z a (ZT D) c)):=by
 have hl:=h.lo;have B:=(cM w.heap.size W).setCell (p:=(Q (w.heap.size+1) 0 Y)) (IS _) (Z a (ZT D) c);have j:Agr (w.heap.size+2) W (A W (Q (w.heap.size+1) 0 Y) (Z a (ZT D) c)):=⟨by simp,λk h1 _=>qh _ _ _ _ (by show k≠w.heap.size+1;omega)⟩
 exact⟨a,ZT D,c,_,rfl,(Az (h.row.agr j) rfl (λr b=>(h.aq r b).d g) (by have:=h.num;omega)).mono (by omega),⟨q,l,h.rd.low B h.lo,h.o.then B⟩,h.num,λi hi=>by
  obtain⟨r,b,f⟩:=dJ hi;rw[ii b]
  exact h.aq r f⟩
def FitI (x:af):Prop:=FitD x/\x.B.size<=2000/\x.l<=200/\x.f<=200
theorem FitI.k (h:FitI x):FitK K x:=⟨h.1.nm,by have:=h.2.1;omega,by have:=h.2.2.1;omega,h.1.asz,by have:=h.2.2.2;omega,h.1.lsz⟩
theorem FitK.H (h:FitK K x)(z:Int):FitK K { x with H:=z }:=⟨h.nm,h.tx,h.an,h.asz,h.ln,h.lsz⟩
theorem FitK.E (h:FitK K x)(z:Int):FitK K { x with E:=z }:=⟨h.nm,h.tx,h.an,h.asz,h.ln,h.lsz⟩
theorem FitK.B (h:FitK K x)(b:t.size<=2000+K):FitK K { x with B:=t }:=⟨h.nm,b,h.an,h.asz,h.ln,h.lsz⟩
theorem FitK.e (h:FitK K x)(b:t.size<=5000):FitK K { x with e:=t }:=⟨b,h.tx,h.an,h.asz,h.ln,h.lsz⟩
theorem DSub.same (h:DSub w b r)(y:af)(g:y.l=r.1.l)(j:y.u=r.1.u)(f:y.f=r.1.f)(i:y.m=r.1.m):DSub w b (y,r.2):=by
 refine⟨?_,?_⟩;{show ZU w b 90 3 r.2.1 y.l (bK y.u y.l);rw[g,j];exact h.u};{show ZU w b 68 4 r.2.2 y.f (bq y.m y.f);rw[f,i];exact h.am}
def iQ (W:G)(g k:Nat)(r:DR):G:=A (A (A (A (A (A W (Q g (k*6) Y) (U r.1.e)) (Q g (k*6+1) Y) (J I r.1.H)) (Q g (k*6+2) Y) (J I r.1.E)) (Q g (k*6+3) Y) (U r.1.B)) (Q g (k*6+4) Y) r.2.1) (Q g (k*6+5) Y) r.2.2
theorem jg{c k:Nat}(h:ZU W b 44 6 (Z (T (Q g 0 Y)) n c) n ((D.set k r).flatMap ddV))(i:k<ZT D)(l:j<6)(m:ddV r'=(ddV r).set j u):(A W (Q g (k*6+j) Y) u).ownsRow b 44 6 (Z (T (Q g 0 Y)) n c) n ((D.set k r').flatMap ddV):=by have f:=gG (j:=k*6+j) h u;rw[jO ddV 6 (λ_=>rfl) l m (D.set k r) k (by rw[L8 i]),RY] at f;exact f
theorem uG{c k:Nat}(r':DR)(h:ZU W b 44 6 (Z (T (Q g 0 Y)) n c) n (D.flatMap ddV))(i:D[k]?=T r):(iQ W g k r').ownsRow b 44 6 (Z (T (Q g 0 Y)) n c) n ((D.set k r').flatMap ddV):=by
 obtain⟨f,l⟩:=j2.1 i;have p:ZU W b 44 6 (Z (T (Q g 0 Y)) n c) n ((D.set k r).flatMap ddV):=by rw[<-l,List.set_getElem_self];exact h
 have h1:=jg (j:=0) (u:=U r'.1.e) (r':=({ r.1 with e:=r'.1.e },r.2)) p f (by omega) rfl;have h2:=jg (j:=1) (u:=J I r'.1.H) (r':=({ r.1 with e:=r'.1.e,H:=r'.1.H },r.2)) h1 f (by omega) rfl;have m:=jg (j:=2) (u:=J I r'.1.E) (r':=({ r.1 with e:=r'.1.e,H:=r'.1.H,E:=r'.1.E },r.2)) h2 f (by omega) rfl;have q:=jg (j:=3) (u:=U r'.1.B) (r':=({ r.1 with e:=r'.1.e,H:=r'.1.H,E:=r'.1.E,B:=r'.1.B },r.2)) m f (by omega) rfl;have o:=jg (j:=4) (u:=r'.2.1) (r':=({ r.1 with e:=r'.1.e,H:=r'.1.H,E:=r'.1.E,B:=r'.1.B },r'.2.1,r.2.2)) q f (by omega) rfl;exact jg (j:=5) (u:=r'.2.2) (r':=r') o f (by omega) rfl
theorem fj (W:G)(g k m:Nat)(r:DR)(h:m≠g):(iQ W g k r).heap[m]?=W.heap[m]?:=by unfold iQ;repeat rw[qh _ _ _ _ (by show m≠g;exact h)]
theorem pO (W:G)(g k B:Nat)(r:DR)(h:B<=g):Below B W (iQ W g k r) :=
 ((((((cM B W).setCell (p:=(Q g (k*6) Y)) h _).setCell (p:=(Q g (k*6+1) Y)) h _).setCell (p:=(Q g (k*6+2) Y)) h _).setCell (p:=(Q g (k*6+3) Y)) h _).setCell (p:=(Q g (k*6+4) Y)) h _).setCell (p:=(Q g (k*6+5) Y)) h _
theorem DSub.far (h:DSub W b r)(f:∀m,r.2.1.ownBlock=T m->OfTy W m 90->W'.heap[m]?=W.heap[m]?)(g:∀m,r.2.2.ownBlock=T m->OfTy W m 68->W'.heap[m]?=W.heap[m]?):DSub W' b r:=⟨cH h.u f,cH h.am g⟩
theorem SpS.deed{R q' c k cl:Nat}(h:SpS K w R X W q (T (Q g 0 Y)) c D)(ZS:D.Pairwise λa b=>Apt a.2.1 b.2.1/\Apt a.2.2 b.2.2)(P:D[k]?=T r)(ZL:r∈D)(ZO:r.2.2=Z (T (Q o 0 Y)) r.1.f cl)
  (hR:Rd W' R q') (ZK:Only R w W') (keep:∀i,i<W.heap.size->i≠R->i≠o->W'.heap[i]?=W.heap[i]?) (r':DR) (hs:DSub W' (w.heap.size+2) r') (hf:FitK K r'.1):SpS K w R X (iQ W' g k r') q' (T (Q g 0 Y)) c (D.set k r'):=by
 obtain⟨h1,h2,h3,cs,z,M⟩:=h.gb;have hlo:=h.lo;have hX:=h.hX;obtain⟨cl2,zl,ZV⟩:=eF (h.row.sub r ZL).am o (by rw[ZO];rfl);have hlb:w.heap.size+2<=o:=((h.row.sub r ZL).am.lt o (by rw[ZO];rfl)).1;have V:g≠o:=λe=>by rw[e,ZV] at M;simp at M
 have S:X≠o:=λe=>by have:=h.bx;rw[e,ZV] at this;simp at this
 have ZN:=keep g h2 (by omega) V;have B:=pO W' g k (w.heap.size+2) r' h1;have O:ZU W' (w.heap.size+2) 44 6 (Z (T (Q g 0 Y)) (ZT D) c) (ZT D) (D.flatMap ddV):=cH h.row.y λm f _=>by
  obtain rfl:g=m:=by simpa[Value.ownBlock] using f
  exact ZN
 have hn:(D.set k r').length=ZT D:=KP;have ZM:∀m e,OfTy W m e->e≠68->w.heap.size+2<=m->W'.heap[m]?=W.heap[m]?:=λm e n ZJ hb=>by obtain⟨c0,z0,j⟩:=n;exact keep m (ag j) (by omega) λp=>by rw[p,ZV] at j;simp at j;exact ZJ j.2.1.symm
 have x:∀s,DSub W' (w.heap.size+2) s->DSub (iQ W' g k r') (w.heap.size+2) s:=λs u=>by
  have H:W'.heap[g]?=T (N cs 44 z):=ZN.trans M;refine u.far (λm _ n=>fj _ _ _ _ _ λe=>?_) λm _ n=>fj _ _ _ _ _ λe=>?_;{obtain⟨c0,z0,j⟩:=n;rw[e,H] at j;simp at j};{obtain⟨c0,z0,j⟩:=n;rw[e,H] at j;simp at j}
 refine⟨hR.low B (by omega),ZK.then (B.mono (by omega)),?_,?_,⟨?_,λs u=>?_⟩,nF h.aq hf,h.lo,h.hX,by rw[hn];exact h.num⟩;{exact(B.block _ (by omega)).trans ((keep _ (ag h.rs) (by omega) (by omega)).trans h.rs)};{rw[hn];exact(fj _ _ _ _ _ (λe=>h3 e.symm)).trans ((keep X h.lt (by omega) S).trans h.bx)};{rw[hn];exact uG r' O P}
 ·obtain⟨i,hi⟩:=ME u;by_cases e:i=k;{subst e;rw[L8 (by rw[<-hn];exact(j2.1 hi).1)] at hi;obtain rfl:=GD hi;exact x _ hs}
  ·rw[NL (λp=>e p.symm)] at hi;have t:=IN hi;refine x s ((h.row.sub s t).far (λm f n=>ZM m _ n (by decide) ((h.row.sub s t).u.lt m f).1) (λm f n=>?_));obtain⟨c0,z0,j⟩:=n;have hb:=((h.row.sub s t).am.lt m f).1;refine keep m (ag j) (by omega) λp=>?_;obtain⟨ZP,ZQ⟩:=j2.1 hi;obtain⟨L,E⟩:=j2.1 P;have y:r.2.2.ownBlock=T o:=by rw[ZO];rfl
   rcases UG e with C|C;{have:=(LD.1 ZS i k ZP L C).2;rw[ZQ,E] at this;rcases this with l|l;{rw[f] at l;cases l};{exact l (by rw[f,y,p])}};{have:=(LD.1 ZS k i L ZP C).2;rw[ZQ,E] at this;rcases this with l|l;{rw[y] at l;cases l};{exact l (by rw[f,y,p])}}
theorem SpS.actK{R c p:Nat}(h:SpS K w R X W q (T (Q g 0 Y)) c D)(b:r∈D)(t:r.2.1=Z (T (Q n 0 Y)) r.1.l o)(s:r.2.2=Z (T (Q j 0 Y)) r.1.f p)(keep:∀i,i<W.heap.size->i≠R->i≠j->W'.heap[i]?=W.heap[i]?):ZU W' (w.heap.size+2) 90 3 (Z (T (Q n 0 Y)) r.1.l o) r.1.l (bK r.1.u r.1.l):=by have hlo:=h.lo;obtain⟨cl2,zl,l⟩:=eF (h.row.sub r b).am j (by rw[s];rfl);rw[<-t];refine cH (h.row.sub r b).u λm h1 h2=>?_;obtain⟨c0,z0,f⟩:=h2;have hb:=((h.row.sub r b).u.lt m h1).1;exact keep m (ag f) (by omega) (λe=>by rw[e,l] at f;simp at f)
theorem SpS.kept{R c f:Nat}(h:SpS K w R X W q (T (Q g 0 Y)) c D)(m:r∈D)(o:r.2.2=Z (T (Q f 0 Y)) r.1.f n)(keep:∀i,i<W.heap.size->i≠R->i≠f->W'.heap[i]?=W.heap[i]?):W'.heap[X]?=W.heap[X]?/\W'.heap[g]?=W.heap[g]?/\g<W'.heap.size:=by obtain⟨h1,h2,h3,cs,z,j⟩:=h.gb;have hlo:=h.lo;have hX:=h.hX;obtain⟨cl2,zl,b⟩:=eF (h.row.sub r m).am f (by rw[o];rfl);have l:=keep g h2 (by omega) (λe=>by rw[e,b] at j;simp at j);exact⟨keep X h.lt (by omega) (λe=>by have:=h.bx;rw[e,b] at this;simp at this),l,ag (l.trans j)⟩
theorem SpS.six{R c k:Nat}(h:SpS K w R X W q (T (Q g 0 Y)) c D)(n:D[k]?=T r)(r':DR)(x:DSub W (w.heap.size+2) r')(u:FitK K r'.1):SpS K w R X (iQ W g k r') q (T (Q g 0 Y)) c (D.set k r'):=by
 obtain⟨h1,h2,p,cs,z,l⟩:=h.gb;have hlo:=h.lo;have B:=pO W g k (w.heap.size+2) r' h1;have hn:(D.set k r').length=ZT D:=KP;have i:∀s,DSub W (w.heap.size+2) s->DSub (iQ W g k r') (w.heap.size+2) s:=λs f=>by
  refine f.far (λm _ j=>fj _ _ _ _ _ λe=>?_) λm _ j=>fj _ _ _ _ _ λe=>?_;{obtain⟨c0,z0,b⟩:=j;rw[e,l] at b;simp at b};{obtain⟨c0,z0,b⟩:=j;rw[e,l] at b;simp at b}
 refine⟨h.rd.low B (by omega),h.o.then (B.mono (by omega)),(B.block _ (by omega)).trans h.rs,?_,⟨?_,λs f=>?_⟩,nF h.aq u,h.lo,h.hX,by rw[hn];exact h.num⟩;{rw[hn];exact(fj _ _ _ _ _ (λe=>p e.symm)).trans h.bx};{rw[hn];exact uG r' h.row.y n};{rcases LN f with t|rfl;{exact i s (h.row.sub s t)};{exact i _ x}}
theorem DSub.form{f:Nat}(h:DSub w b r)(m:r.2.1=Z (T (Q f 0 Y)) r.1.l g)(l:r.2.2=Z (T (Q j 0 Y)) r.1.f i):DSub w b (r.1,Z (T (Q f 0 Y)) r.1.l g,Z (T (Q j 0 Y)) r.1.f i):=by rw[<-m,<-l];exact h
theorem DSub.six{k:Nat}{s:DR}{l:Array ZD}{z:Nat × Nat}(h:DSub W b s)(j:W.heap[g]?=T (N l 44 z)):DSub (iQ W g k r') b s:=by
 refine h.far (λm _ i=>fj _ _ _ _ _ λe=>?_) λm _ i=>fj _ _ _ _ _ λe=>?_;{obtain⟨c0,z0,f⟩:=i;rw[e,j] at f;simp at f};{obtain⟨c0,z0,f⟩:=i;rw[e,j] at f;simp at f}
variable {K:Nat}
def noR:DR:=(fk,Z Y 0 0,Z Y 0 0)
theorem Dt (n i:Nat)(h:i<n*6):(dB n)[i]?=(ddV noR)[i % 6]?:=by
 have e:(dB n)[i]?=T ((Value.agg #[U ⟨#[]⟩,J I 0,J I 0,U ⟨#[]⟩,Z Y 0 0,Z Y 0 0]).cells[i % 6]!):=by unfold dB madeCells;simp[h];rfl
 rw[e];have b:i % 6<6:=PE _ (by omega);generalize i % 6=j at b;rcases(show j=0∨j=1∨j=2∨j=3∨j=4∨j=5 by omega) with rfl|rfl|rfl|rfl|rfl|rfl<;>rfl
theorem yQ (n:Nat):(dB n).toList=(List.replicate n noR).flatMap ddV:=by
 refine OD λi=>?_;by_cases h:i<n*6
 ·have e:i=i / 6*6+i % 6:=by omega
  rw[KV,Dt n i h];conv=>rhs;rw[e]
  rw[cL ddV 6 (λ_=>rfl) _ (i / 6) (i % 6) (by omega) noR (by rw[List.getElem?_replicate,hU (by omega)])]
 {have hz:(dB n).size=n*6:=size_madeCells _ _;rw[LJ (by rw[NM,hz];omega),LJ (by rw[fc ddV 6 (λ_=>rfl),NV];omega)]}
theorem AA (w:G)(b n:Nat)(hb:b<=w.heap.size)(hn:n<=1000):DRw (w.alloc (N (dB n) 44)) b (Z (T (Q w.heap.size 0 Y)) n n) (List.replicate n noR):=by
 have hz:(dB n).size=n*6:=size_madeCells _ _;have f:((List.replicate n noR).flatMap ddV).length=n*6:=by rw[fc ddV 6 (λ_=>rfl),NV]
 refine⟨?_,λr g=>?_⟩;{rw[NV];refine⟨f,.inr ⟨w.heap.size,n,dB n,rfl,hb,nD w _,j6 _,by unfold maxLen;omega,hz,?_⟩⟩;rw[<-yQ,MW (by rw[NM,hz];omega)]};{rw[List.eq_of_mem_replicate g];exact⟨CL _ _ _ _,CL _ _ _ _⟩}
theorem AE{R c m:Nat}(h:SpS K w R X W q a c D)(hm:m<=450)(f:q<=ZN):DAK K w R ZN (ZG (ZH #[Z (T (Q W.heap.size 0 Y)) m m])) ((A W (Q (w.heap.size+1) 0 Y) (Z (T (Q W.heap.size 0 Y)) m m)).alloc (N (dB m) 44)):=by
 have hl:=h.lo;have hx:=h.lt;have hX:=h.hX;have hz:(A W (Q (w.heap.size+1) 0 Y) (Z (T (Q W.heap.size 0 Y)) m m)).heap.size=W.heap.size:=by simp
 have B:=((cM w.heap.size W).setCell (p:=(Q (w.heap.size+1) 0 Y)) (IS _) (Z (T (Q W.heap.size 0 Y)) m m)).alloc (by rw[hz];omega) (N (dB m) 44);have b:=AA (A W (Q (w.heap.size+1) 0 Y) (Z (T (Q W.heap.size 0 Y)) m m)) w.heap.size m (by rw[hz];omega) (by omega);rw[hz] at b
 exact⟨T (Q W.heap.size 0 Y),m,m,_,rfl,Az b (by rw[NV]) (λr b=>by rw[List.eq_of_mem_replicate b];exact yP) (by rw[NV];omega),⟨q,f,h.rd.low B h.lo,h.o.then B⟩,by omega,λi hi=>by
  rw[ii (r:=noR) (by rw[List.getElem?_replicate,hU hi])]
  exact Fu⟩
theorem SpS.box_{R c:Nat}{g:Option Addr}{b:List DR}(h:SpS K w R X W q a c D)(s:Below W.heap.size W W')(l:ZU W' (w.heap.size+2) 44 6 (Z g (ZT b) i) (ZT b) (b.flatMap ddV))(ZV:∀r∈b,DSub W' (w.heap.size+2) r)(y:∀r∈b,FitK K r.1)(hn:ZT b<=450+K):SpS K w R X (A W' (Q X 0 Y) (Z g (ZT b) i)) q g i b:=by
 have j:=h.aa s;have hX:=h.hX;have hlo:=h.lo;have B:=(cM (w.heap.size+2) W').setCell (p:=(Q X 0 Y)) hX (Z g (ZT b) i);have far:∀m,m≠X->(A W' (Q X 0 Y) (Z g (ZT b) i)).heap[m]?=W'.heap[m]?:=λm t=>qh _ _ _ _ t;have n:∀m e,OfTy W' m e->e≠25->m≠X:=λm e f u C=>by obtain⟨c0,z0,x⟩:=f;have:=j.bx;rw[<-C,x] at this;simp at this;exact u this.2.1
 refine⟨j.rd.low B (by omega),j.o.then (B.mono (by omega)),(B.block _ (by omega)).trans j.rs,?_,⟨cH l λm _ f=>far m (n m _ f (by decide)),λr z=>(ZV r z).far (λm _ f=>far m (n m _ f (by decide))) (λm _ f=>far m (n m _ f (by decide)))⟩,y,h.lo,h.hX,hn⟩;exact bD j.bx _
theorem yR{base c k:Nat}(hk:k<ZT D)(hc:ZT D<=c):∃f:Addr,(if c=k+1 then T ((Q g 0 Y):Addr) else T ⟨g,(k+1)*6,Y⟩)=T f /\
  ∀V:G,ZU V base 44 6 (Z (T (Q g 0 Y)) (ZT D) c) (ZT D) (D.flatMap ddV)->∀j u,((D.drop (k+1)).flatMap ddV)[j]?=T u->V.cell? (f.add j)=T u:=by
 by_cases h:c=k+1;{refine⟨(Q g 0 Y),by rw[hU h],λV i j u b=>?_⟩;rw[List.drop_eq_nil_of_le (by omega)] at b;simp at b}
 ·refine⟨⟨g,(k+1)*6,Y⟩,by rw[eT h],λV i j u b=>?_⟩
  have h1:=i.cells (g:=g) rfl ((k+1)*6+j) u (by
   have e:D.flatMap ddV=(D.take (k+1)).flatMap ddV++(D.drop (k+1)).flatMap ddV:=by rw[<-IH,NF]
   have l:((D.take (k+1)).flatMap ddV).length=(k+1)*6:=by rw[fc ddV 6 (λ_=>rfl),LU,ND (by omega)]
   rw[e,KL (by omega),l,Nat.add_sub_cancel_left]
   exact b)
  rw[gA] at h1 ⊢;rwa[E4] at h1
theorem AF{c:Nat}(k:Nat)(h:ZU V b 44 6 (Z (T (Q g 0 Y)) (ZT D) c) (ZT D) (D.flatMap ddV)):∀j u,((D.take k).flatMap ddV)[j]?=T u->V.cell? (((Q g 0 Y):Addr).add j)=T u:=by
 intro j u f;refine h.cells (g:=g) rfl j u ?_;have e:D.flatMap ddV=(D.take k).flatMap ddV++(D.drop k).flatMap ddV:=by rw[<-IH,NF]
 rw[e,KO (j2.1 f).1];exact f
theorem qI (D:List DR)(h:∀r∈D,Som r):∀u∈D.flatMap ddV,u.oneCell'=true:=by intro u l;obtain⟨r,f,b⟩:=MK.1 l;obtain⟨⟨g,c,i⟩,g',c',j⟩:=h r f;simp only[ddV,i,j,BS,nj,NE] at b;rcases b with rfl|rfl|rfl|rfl|rfl|rfl<;>rfl
