import Derived.Test.YtamacmnikdejeaaGreatDoorLT
import Derived.Test.YtamacmnikdejeaaGreatDoorLU
import Derived.Test.YtamacmnikdejeaaGreatDoorMX
open Go renaming Addr.mk->Q,Value.slice->Y,Value.string->U,Value.int->J,Value.agg->ZG,Obj.cells->N,IntKind.i64->I,World->E,Value->ZB,Ending.returned->ZF,World.heap->z
open Option renaming none->Z,some->T
open Array renaming size->A
namespace Go.Proofs.YtamacmnikdejeaaGreatDoor.Vp
open RowKit Ca
variable {b n K g i j ZM m:Nat}{w V:E}{R:List DR}{x:au}{a:Option Addr}{r r':DR}{f:Nat->au}{t:ByteArray}
structure FitD (x:au):Prop where
 nm:x.e.size<=5000
 tx:x.H.size<=5000
 an:x.h<=300
 asz:∀j,j<x.h->(x.u j).s.size<=5000
 ln:x.f<=300
 lsz:∀j,j<x.f->(x.m j).e.size<=5000
theorem FitD.fits (h:FitD x):dw x:=⟨by have:=h.an;omega,by have:=h.ln;omega⟩
theorem FitD.sized (h:FitD x):ie x:=by
 have h1:=h.nm;have h2:=h.tx;have h3:=h.an;have h5:=h.ln;refine⟨by unfold maxLen;omega,by unfold maxLen;omega,⟨by omega,λj b=>?_⟩,⟨by omega,λj b=>?_⟩⟩;{have:=h.asz j b;unfold maxLen;omega};{have:=h.lsz j b;unfold maxLen;omega}
structure FitK (K:Nat)(x:au):Prop where
 nm:x.e.size<=5000
 tx:x.H.size<=2000+K
 an:x.h<=200+K
 asz:∀j,j<x.h->(x.u j).s.size<=5000
 ln:x.f<=200+K
 lsz:∀j,j<x.f->(x.m j).e.size<=5000
theorem FitK.d (h:FitK K x)(hK:K<=90):FitD x:=⟨h.nm,by have:=h.tx;omega,by have:=h.an;omega,h.asz,by have:=h.ln;omega,h.lsz⟩
theorem FitK.up{L:Nat}(h:FitK K x)(hK:K<=L):FitK L x:=⟨h.nm,by have:=h.tx;omega,by have:=h.an;omega,h.asz,by have:=h.ln;omega,h.lsz⟩
theorem FF:FitK K fg:=⟨by decide,by show 0<=2000+K;omega,IH _,λj b=>absurd b (by simp[fg]),IH _,λj b=>absurd b (by simp[fg])⟩
theorem yN:FitD fg:=⟨by decide,by decide,by decide,λj b=>absurd b (by simp[fg]),by decide,λj b=>absurd b (by simp[fg])⟩
theorem nV{s:ByteArray}(h:aB s=true):s.size<=60:=by unfold aB at h;rw[nD,p6] at h;exact h.1.2
theorem uO (S:Spc)(nm:ByteArray):∀x∈aT S (aV S nm).1,FitD x/\x.H.size<=2000/\x.h<=200/\x.f<=200:=by
 obtain⟨q,_,l⟩:=lD S nm;intro x u;obtain⟨e,m,rfl⟩:=LM.1 u;have f:=q.W e m;have ZR:=l (List.ne_nil_of_mem m);have h1:=nV f.nm;have h2:=f.tx;have ZS:=f.looks;have i:(a8 S (aV S nm).1 e).f=e.looks.length:=rfl;have n:(a8 S (aV S nm).1 e).h=bM S e:=rfl;have p:bM S e=0∨valid (S.f1 e.tg).u (S.f1 e.tg).h=true/\bM S e=(S.f1 e.tg).h:=by
  rcases f.L with ⟨b,_⟩|⟨b,_⟩|⟨b,_,y⟩
  {exact .inl (by unfold bM;rw[eT (by omega)])};{exact .inl (by unfold bM;rw[eT (by omega)])};{refine .inr ⟨ZR.u _ (bc y).1,?_⟩;unfold bM;rw[j6 b]}
 have hn:bM S e<=200:=by
  rcases p with h|⟨h,r⟩
  {omega};{have:=(bF h).2.2;omega}
 have t:∀j,j<bM S e->((S.f1 e.tg).u j).s.size<=5000:=by
  intro j g;rcases p with h|⟨h,r⟩
  {omega}
  ·have b:=jv (bF h).1 (show j<_ by omega);unfold cG at b;rw[p6] at b;have hm:bT ((S.f1 e.tg).u j).op<=2000:=by unfold bT;split<;>omega
   omega
 have o:∀j,j<e.looks.length->(lkF (aV S nm).1 e.looks j).e.size<=5000:=by intro j g;rw[km (gq g)];have:=nV (f.lname _ (gz g));show(e.looks[j]).e.size<=5000;omega
 exact⟨⟨by show e.e.size<=_;omega,by show e.H.size<=_;omega,by rw[n];omega,t,by rw[i];omega,o⟩,h2,by rw[n];exact hn,by rw[i];exact ZS⟩
structure HAc (base:Nat)(w:E)(a:Option Addr)(n c:Nat)(f:Nat->au):Prop where
 sl:∀V,Agr base w V->SlDeed V a n f
 cap:n<=c
 hn:n<=50000
 az:∀i,i<n->FitD (f i)
theorem HAc.agr{c:Nat}(h:HAc b w a n c f)(i:Agr b w V):HAc b V a n c f:=⟨λZK g=>h.sl ZK (i.trans g),h.cap,h.hn,h.az⟩
theorem HAc.mono{c:Nat}(h:HAc b w a n c f)(hb:g<=b):HAc g w a n c f:=⟨λZK i=>h.sl ZK (i.mono hb),h.cap,h.hn,h.az⟩
theorem DSub.agr (h:DSub w b r)(f:Agr b w V):DSub V b r:=⟨eO h.u f,eO h.aq f⟩
theorem DRow.agr{v:ZB}(h:DRow w b v R)(f:Agr b w V):DRow V b v R:=⟨eO h.y f,λr g=>(h.sub r g).agr f,h.up⟩
theorem jt{size c:Nat}{e:TypeId}{j:List ZB}(h:w.ownsRow b e size (Y a n c) i j):n<=c:=by
 rcases h.2 with ⟨f,h0⟩|⟨g,cap,cur,f,hb,hg,hc,_⟩
 {simp only[KK] at f;omega};{simp only[KK] at f;omega}
theorem Gq{c:Nat}(h:DRow w b (Y a R.length c) R)(l:∀r∈R,FitD r.1)(hn:R.length<=50000):HAc b w a R.length c (dF (R.map (·.1))):=by refine⟨λV j=>(h.agr j).bb,jt h.y,hn,λi hi=>?_⟩;obtain⟨r,f,g⟩:=dr hi;rw[gF f];exact l r g
def DA (w:E)(R q:Nat)(e:Ending)(b:E):Prop:=∃(a:Option Addr) (n c:Nat) (f:Nat->au),e=ZF (ZG #[Y a n c])/\HAc (A (z w)) b a n c f/\∃q':Nat,q'<=q/\Rd b R q'/\Only R w b
def DAK (K:Nat)(w:E)(R q:Nat)(e:Ending)(b:E):Prop:=∃(a:Option Addr) (n c:Nat) (f:Nat->au),e=ZF (ZG #[Y a n c])/\HAc (A (z w)) b a n c f/\(∃q':Nat,q'<=q/\Rd b R q'/\Only R w b)/\n<=450+K/\∀i,i<n->FitK K (f i)
theorem jI {f:Type}(g:f->List ZB)(C:Nat)(b:∀x,(g x).length=C){j:Nat}(l:j<C){x y:f}{u:ZB}(i:g y=(g x).set j u):∀(L:List f) (k:Nat),L[k]?=T x->(L.flatMap g).set (k*C+j) u=(L.set k y).flatMap g
 |[],k,h=>by simp at h
 |ZS::L,0,h=>by
  obtain rfl:ZS=x:=by simpa using h
  simp only[LI,List.set_cons_zero,QO,IT];rw[TT _ _ (by rw[b];exact l),i]
 |ZS::L,k+1,h=>by
  have m:L[k]?=T x:=by simpa using h
  have e:(k+1)*C+j - C=k*C+j:=by rw[Nat.add_mul];omega
  simp only[LI,Q2];rw[PU _ _ (by rw[b,Nat.add_mul];omega),b,e,jI g C b l i L k m]
structure DRw (w:E)(base:Nat)(v:ZB)(R:List DR):Prop where
 y:w.ownsRow base 46 6 v R.length (R.flatMap ddV)
 sub:∀r∈R,DSub w base r
theorem DRow.rw{v:ZB}(h:DRow w b v R):DRw w b v R:=⟨h.y,h.sub⟩
theorem DRw.agr{v:ZB}(h:DRw w b v R)(f:Agr b w V):DRw V b v R:=⟨eO h.y f,λr g=>(h.sub r g).agr f⟩
theorem DRw.mono{base':Nat}{v:ZB}(h:DRw w b v R)(hb:base'<=b):DRw w base' v R:=⟨aF h.y hb,λr f=>(h.sub r f).mono hb⟩
theorem DRw.aa{g:E}{B:Nat}{v:ZB}(h:DRw w b v R)(hb:Below B w g)(f:A (z w)<=B):DRw g b v R:=⟨own_below h.y hb f,λr i=>(h.sub r i).aa hb f⟩
theorem DRw.bb{c:Nat}(h:DRw w b (Y a R.length c) R):SlDeed w a R.length (dF (R.map (·.1))):=by
 by_cases hz:R.length=0;{exact .inl hz}
 ·obtain⟨g,c',e⟩:=df h.y (by omega);cases e
  refine .inr ⟨g,0,rfl,(cO h.y).2,λi hi=>?_⟩;obtain⟨r,f,l⟩:=dr hi;rw[gF f];have c:∀j,j<6->∀u,(ddV r)[j]?=T u->w.cell? (Q g (0+i*6+j) Z)=T u:=λj x u p=>by rw[show 0+i*6+j=i*6+j by omega];exact(ij h.y f j x p).1
  obtain⟨m,c4,s,q⟩:=(h.sub r l).ins;obtain⟨n,c5,t,o⟩:=(h.sub r l).m;exact⟨c 0 (by omega) _ rfl,c 1 (by omega) _ rfl,c 2 (by omega) _ rfl,c 3 (by omega) _ rfl,⟨m,c4,by rw[<-s];exact c 4 (by omega) _ rfl,q⟩,⟨n,c5,by rw[<-t];exact c 5 (by omega) _ rfl,o⟩⟩
theorem Ay{c:Nat}(h:DRw w b (Y a n c) R)(e:n=R.length)(l:∀r∈R,FitD r.1)(hn:R.length<=50000):HAc b w a n c (dF (R.map (·.1))):=by subst e;refine⟨λV j=>(h.agr j).bb,jt h.y,hn,λi hi=>?_⟩;obtain⟨r,f,g⟩:=dr hi;rw[gF f];exact l r g
theorem DSub.put{i:Array ZB}{fz:Nat × Nat}(h:DSub w b r)(f:w.heap[g]?=T (N i 46 fz))(u:ZB):DSub (w.setCell (Q g j Z) u) b r :=
 ⟨dy h.u f (by decide) u,dy h.aq f (by decide) u⟩
theorem DRw.am{c k:Nat}{u:ZB}(h:DRw w b (Y (T (Q g 0 Z)) n c) R)(e:n=R.length)(m:R[k]?=T r)(s:j<6)(q:ddV r'=(ddV r).set j u)(p:DSub w b r'):DRw (w.setCell (Q g (k*6+j) Z) u) b (Y (T (Q g 0 Z)) n c) (R.set k r'):=by
 subst e;obtain⟨cs,ZS,f⟩:=fD h.y g rfl;have i:=gw (j:=k*6+j) h.y u;rw[jI ddV 6 (λ_=>rfl) s q R k m] at i;refine⟨by rw[KQ];exact i,λo l=>?_⟩;rcases LN l with h2|rfl;{exact(h.sub o h2).put f u};{exact p.put f u}
theorem nE{P:au->Prop}{k:Nat}(h:∀r∈R,P r.1)(f:P r'.1):∀r∈R.set k r',P r.1:=λr b=>by
 rcases LN b with h2|rfl
 ·exact h r h2
 ·exact f
variable {K:Nat}
structure SpS (K:Nat)(w:E)(R X:Nat)(W:E)(q:Nat)(a:Option Addr)(c:Nat)(D:List DR):Prop where
 rd:Rd W R q
 o:Only R w W
 rs:W.heap[A (z w)+1]?=T (N #[Y Z 0 0] 25 (0,0))
 bx:W.heap[X]?=T (N #[Y a D.length c] 25 (0,0))
 row:DRw W (A (z w)+2) (Y a D.length c) D
 az:∀r∈D,FitK K r.1
 lo:R<A (z w)
 hX:A (z w)+2<=X
 num:D.length<=450+K
section
variable {w W W':E}{R X q q' c g k j:Nat}{a:Option Addr}{D:List DR}{r r':DR}{u:ZB}
theorem SpS.lt (h:SpS K w R X W q a c D):X<A (z W):=ar h.bx
theorem SpS.ac (h:SpS K w R X W q a c D)(b:Only R W W')(hR:Rd W' R q'):SpS K w R X W' q' a c D:=by have hl:=h.lo;have hx:=h.hX;exact⟨hR,h.o.trans b,(b.block _ (ar h.rs) (by omega)).trans h.rs,(b.block _ h.lt (by omega)).trans h.bx,h.row.agr (b.agr (by omega)),h.az,h.lo,h.hX,h.num⟩
theorem SpS.aa (h:SpS K w R X W q a c D)(b:Below (A (z W)) W W'):SpS K w R X W' q a c D:=h.ac (Only.q b) (h.rd.aa b ly)
theorem SpS.l (h:SpS K w R X W q a c D):W.cell? (Q X 0 Z)=T (Y a D.length c)/\W.frozen? (Q X 0 Z)=false:=by
 have hb:=h.bx;constructor;{simp[World.cell?,hb]};{simp[World.frozen?,hb]}
theorem SpS.G (h:SpS K w R X W q (T (Q g 0 Z)) c D)(i:D[k]?=T r)(b:j<6)(f:(ddV r)[j]?=T u):W.cell? (Q g (k*6+j) Z)=T u/\W.frozen? (Q g (k*6+j) Z)=false:=ij h.row.y i j b f
theorem SpS.gb (h:SpS K w R X W q (T (Q g 0 Z)) c D):A (z w)+2<=g/\g<A (z W)/\g≠X/\∃f ZS,W.heap[g]?=T (N f 46 ZS):=by obtain⟨f,ZS,b⟩:=fD h.row.y g rfl;obtain⟨h1,h2⟩:=cO h.row.y;refine⟨h1,h2,λe=>?_,f,ZS,b⟩;rw[e,h.bx] at b;simp at b
theorem SpS.put (h:SpS K w R X W q (T (Q g 0 Z)) c D){b:List DR}(hn:b.length=D.length)(f:DRw (W.setCell (Q g j Z) u) (A (z w)+2) (Y (T (Q g 0 Z)) D.length c) b)(l:∀r∈b,FitK K r.1):SpS K w R X (W.setCell (Q g j Z) u) q (T (Q g 0 Z)) c b:=by
 obtain⟨h1,h2,i,cs,ZS,hg⟩:=h.gb;have hl:=h.lo;have B:=(cM (A (z w)+2) W).setCell (p:=(Q g j Z)) h1 u;refine⟨h.rd.low B (by omega),h.o.then (B.mono (by omega)),(B.block _ (by omega)).trans h.rs,?_,?_,l,h.lo,h.hX,by rw[hn];exact h.num⟩;{rw[hn];exact(qh _ _ _ _ (λe=>i e.symm)).trans h.bx};{rw[hn];exact f}
theorem SpS.am (h:SpS K w R X W q (T (Q g 0 Z)) c D)(b:D[k]?=T r)(i:j<6)(l:ddV r'=(ddV r).set j u)(m:DSub W (A (z w)+2) r')(f:FitK K r'.1):SpS K w R X (W.setCell (Q g (k*6+j) Z) u) q (T (Q g 0 Z)) c (D.set k r') :=
 h.put KQ (h.row.am rfl b i l m) (nE h.az f)
end
theorem SpS.fin{W:E}{R X q c:Nat}{D:List DR}(h:SpS K w R X W q a c D)(f:K<=90)(j:q<=ZM):DAK K w R ZM (ZF (ZG #[Y a D.length c])) (W.setCell (Q (A (z w)+1) 0 Z) (Y a D.length c)):=by
 have hl:=h.lo;have B:=(cM (A (z w)) W).setCell (p:=(Q (A (z w)+1) 0 Z)) (D0 _) (Y a D.length c);have l:Agr (A (z w)+2) W (W.setCell (Q (A (z w)+1) 0 Z) (Y a D.length c)):=⟨by simp,λk h1 _=>qh _ _ _ _ (by show k≠A (z w)+1;omega)⟩
 exact⟨a,D.length,c,_,rfl,(Ay (h.row.agr l) rfl (λr b=>(h.az r b).d f) (by have:=h.num;omega)).mono (by omega),⟨q,j,h.rd.low B h.lo,h.o.then B⟩,h.num,λi hi=>by
  obtain⟨r,b,g⟩:=dr hi;rw[gF b]
  exact h.az r g⟩
def FitI (x:au):Prop:=FitD x/\x.H.size<=2000/\x.h<=200/\x.f<=200
theorem FitI.k (h:FitI x):FitK K x:=⟨h.1.nm,by have:=h.2.1;omega,by have:=h.2.2.1;omega,h.1.asz,by have:=h.2.2.2;omega,h.1.lsz⟩
theorem FitK.L (h:FitK K x)(ZS:Int):FitK K { x with L:=ZS }:=⟨h.nm,h.tx,h.an,h.asz,h.ln,h.lsz⟩
theorem FitK.M (h:FitK K x)(ZS:Int):FitK K { x with M:=ZS }:=⟨h.nm,h.tx,h.an,h.asz,h.ln,h.lsz⟩
theorem FitK.H (h:FitK K x)(b:t.size<=2000+K):FitK K { x with H:=t }:=⟨h.nm,b,h.an,h.asz,h.ln,h.lsz⟩
theorem FitK.e (h:FitK K x)(b:t.size<=5000):FitK K { x with e:=t }:=⟨b,h.tx,h.an,h.asz,h.ln,h.lsz⟩
theorem DSub.same (h:DSub w b r)(y:au)(j:y.h=r.1.h)(i:y.u=r.1.u)(f:y.f=r.1.f)(g:y.m=r.1.m):DSub w b (y,r.2):=by
 refine⟨?_,?_⟩;{show w.ownsRow b 146 3 r.2.1 y.h (bV y.u y.h);rw[j,i];exact h.u};{show w.ownsRow b 129 4 r.2.2 y.f (bY y.m y.f);rw[f,g];exact h.aq}
def iF (W:E)(g k:Nat)(r:DR):E:=(((((W.setCell (Q g (k*6) Z) (U r.1.e)).setCell (Q g (k*6+1) Z) (J I r.1.L)).setCell (Q g (k*6+2) Z) (J I r.1.M)).setCell (Q g (k*6+3) Z) (U r.1.H)).setCell (Q g (k*6+4) Z) r.2.1).setCell (Q g (k*6+5) Z) r.2.2
theorem iX{W:E}{c k:Nat}{D:List DR}{u:ZB}(h:W.ownsRow b 46 6 (Y (T (Q g 0 Z)) n c) n ((D.set k r).flatMap ddV))(i:k<D.length)(l:j<6)(m:ddV r'=(ddV r).set j u):(W.setCell (Q g (k*6+j) Z) u).ownsRow b 46 6 (Y (T (Q g 0 Z)) n c) n ((D.set k r').flatMap ddV):=by have f:=gw (j:=k*6+j) h u;rw[jI ddV 6 (λ_=>rfl) l m (D.set k r) k (by rw[L8 i]),SV] at f;exact f
theorem uP{W:E}{c k:Nat}{D:List DR}(r':DR)(h:W.ownsRow b 46 6 (Y (T (Q g 0 Z)) n c) n (D.flatMap ddV))(i:D[k]?=T r):(iF W g k r').ownsRow b 46 6 (Y (T (Q g 0 Z)) n c) n ((D.set k r').flatMap ddV):=by
 obtain⟨f,l⟩:=j5.1 i;have q:W.ownsRow b 46 6 (Y (T (Q g 0 Z)) n c) n ((D.set k r).flatMap ddV):=by rw[<-l,List.set_getElem_self];exact h
 have h1:=iX (j:=0) (u:=U r'.1.e) (r':=({ r.1 with e:=r'.1.e },r.2)) q f (by omega) rfl;have h2:=iX (j:=1) (u:=J I r'.1.L) (r':=({ r.1 with e:=r'.1.e,L:=r'.1.L },r.2)) h1 f (by omega) rfl;have p:=iX (j:=2) (u:=J I r'.1.M) (r':=({ r.1 with e:=r'.1.e,L:=r'.1.L,M:=r'.1.M },r.2)) h2 f (by omega) rfl;have o:=iX (j:=3) (u:=U r'.1.H) (r':=({ r.1 with e:=r'.1.e,L:=r'.1.L,M:=r'.1.M,H:=r'.1.H },r.2)) p f (by omega) rfl;have m:=iX (j:=4) (u:=r'.2.1) (r':=({ r.1 with e:=r'.1.e,L:=r'.1.L,M:=r'.1.M,H:=r'.1.H },r'.2.1,r.2.2)) o f (by omega) rfl;exact iX (j:=5) (u:=r'.2.2) (r':=r') m f (by omega) rfl
theorem fe (W:E)(g k m:Nat)(r:DR)(h:m≠g):(iF W g k r).heap[m]?=W.heap[m]?:=by unfold iF;repeat rw[qh _ _ _ _ (by show m≠g;exact h)]
theorem pW (W:E)(g k B:Nat)(r:DR)(h:B<=g):Below B W (iF W g k r) :=
 ((((((cM B W).setCell (p:=(Q g (k*6) Z)) h _).setCell (p:=(Q g (k*6+1) Z)) h _).setCell (p:=(Q g (k*6+2) Z)) h _).setCell (p:=(Q g (k*6+3) Z)) h _).setCell (p:=(Q g (k*6+4) Z)) h _).setCell (p:=(Q g (k*6+5) Z)) h _
theorem DSub.far{W W':E}(h:DSub W b r)(g:∀m,r.2.1.ownBlock=T m->OfTy W m 146->W'.heap[m]?=W.heap[m]?)(f:∀m,r.2.2.ownBlock=T m->OfTy W m 129->W'.heap[m]?=W.heap[m]?):DSub W' b r:=⟨dP h.u g,dP h.aq f⟩
theorem SpS.deed{W W':E}{R X q q' c k o cl:Nat}{D:List DR}(h:SpS K w R X W q (T (Q g 0 Z)) c D)(H:D.Pairwise λa b=>Apt a.2.1 b.2.1/\Apt a.2.2 b.2.2)(ZM:D[k]?=T r)(ZL:r∈D)(O:r.2.2=Y (T (Q o 0 Z)) r.1.f cl)
  (hR:Rd W' R q') (hO:Only R w W') (keep:∀i,i<A (z W)->i≠R->i≠o->W'.heap[i]?=W.heap[i]?) (r':DR) (ZI:DSub W' (A (z w)+2) r') (ZJ:FitK K r'.1):SpS K w R X (iF W' g k r') q' (T (Q g 0 Z)) c (D.set k r'):=by
 obtain⟨h1,h2,h3,cs,ZS,M⟩:=h.gb;have hlo:=h.lo;have hX:=h.hX;obtain⟨cl2,zl,y⟩:=fD (h.row.sub r ZL).aq o (by rw[O];rfl);have hlb:A (z w)+2<=o:=((h.row.sub r ZL).aq.lt o (by rw[O];rfl)).1;have S:g≠o:=λe=>by rw[e,y] at M;simp at M
 have ZK:X≠o:=λe=>by have:=h.bx;rw[e,y] at this;simp at this
 have V:=keep g h2 (by omega) S;have B:=pW W' g k (A (z w)+2) r' h1;have ZN:W'.ownsRow (A (z w)+2) 46 6 (Y (T (Q g 0 Z)) D.length c) D.length (D.flatMap ddV):=dP h.row.y λm f _=>by
  obtain rfl:g=m:=by simpa[Value.ownBlock] using f
  exact V
 have hn:(D.set k r').length=D.length:=KQ;have P:∀m e,OfTy W m e->e≠129->A (z w)+2<=m->W'.heap[m]?=W.heap[m]?:=λm e l he hb=>by obtain⟨c0,z0,j⟩:=l;exact keep m (ar j) (by omega) λp=>by rw[p,y] at j;simp at j;exact he j.2.1.symm
 have ZR:∀s,DSub W' (A (z w)+2) s->DSub (iF W' g k r') (A (z w)+2) s:=λs x=>by
  have L:W'.heap[g]?=T (N cs 46 ZS):=V.trans M;refine x.far (λm _ l=>fe _ _ _ _ _ λe=>?_) λm _ l=>fe _ _ _ _ _ λe=>?_;{obtain⟨c0,z0,j⟩:=l;rw[e,L] at j;simp at j};{obtain⟨c0,z0,j⟩:=l;rw[e,L] at j;simp at j}
 refine⟨hR.low B (by omega),hO.then (B.mono (by omega)),?_,?_,⟨?_,λs x=>?_⟩,nE h.az ZJ,h.lo,h.hX,by rw[hn];exact h.num⟩;{exact(B.block _ (by omega)).trans ((keep _ (ar h.rs) (by omega) (by omega)).trans h.rs)};{rw[hn];exact(fe _ _ _ _ _ (λe=>h3 e.symm)).trans ((keep X h.lt (by omega) ZK).trans h.bx)};{rw[hn];exact uP r' ZN ZM}
 ·obtain⟨i,hi⟩:=LZ x;by_cases e:i=k;{subst e;rw[L8 (by rw[<-hn];exact(j5.1 hi).1)] at hi;obtain rfl:=IN hi;exact ZR _ ZI}
  ·rw[NK (λp=>e p.symm)] at hi;have t:=J2 hi;refine ZR s ((h.row.sub s t).far (λm f l=>P m _ l (by decide) ((h.row.sub s t).u.lt m f).1) (λm f l=>?_));obtain⟨c0,z0,j⟩:=l;have hb:=((h.row.sub s t).aq.lt m f).1;refine keep m (ar j) (by omega) λp=>?_;obtain⟨ZP,ZQ⟩:=j5.1 hi;obtain⟨G,ZO⟩:=j5.1 ZM;have u:r.2.2.ownBlock=T o:=by rw[O];rfl
   rcases UR e with C|C;{have:=(LC.1 H i k ZP G C).2;rw[ZQ,ZO] at this;rcases this with n|n;{rw[f] at n;cases n};{exact n (by rw[f,u,p])}};{have:=(LC.1 H k i G ZP C).2;rw[ZQ,ZO] at this;rcases this with n|n;{rw[u] at n;cases n};{exact n (by rw[f,u,p])}}
theorem SpS.actK{W W':E}{R X q c p l:Nat}{D:List DR}(h:SpS K w R X W q (T (Q g 0 Z)) c D)(f:r∈D)(s:r.2.1=Y (T (Q l 0 Z)) r.1.h n)(t:r.2.2=Y (T (Q b 0 Z)) r.1.f p)(keep:∀i,i<A (z W)->i≠R->i≠b->W'.heap[i]?=W.heap[i]?):W'.ownsRow (A (z w)+2) 146 3 (Y (T (Q l 0 Z)) r.1.h n) r.1.h (bV r.1.u r.1.h):=by have hlo:=h.lo;obtain⟨cl2,zl,o⟩:=fD (h.row.sub r f).aq b (by rw[t];rfl);rw[<-s];refine dP (h.row.sub r f).u λm h1 h2=>?_;obtain⟨c0,z0,j⟩:=h2;have hb:=((h.row.sub r f).u.lt m h1).1;exact keep m (ar j) (by omega) (λe=>by rw[e,o] at j;simp at j)
theorem SpS.kept{W W':E}{R X q c:Nat}{D:List DR}(h:SpS K w R X W q (T (Q g 0 Z)) c D)(n:r∈D)(o:r.2.2=Y (T (Q j 0 Z)) r.1.f m)(keep:∀i,i<A (z W)->i≠R->i≠j->W'.heap[i]?=W.heap[i]?):W'.heap[X]?=W.heap[X]?/\W'.heap[g]?=W.heap[g]?/\g<A (z W'):=by obtain⟨h1,h2,h3,cs,ZS,f⟩:=h.gb;have hlo:=h.lo;have hX:=h.hX;obtain⟨cl2,zl,b⟩:=fD (h.row.sub r n).aq j (by rw[o];rfl);have l:=keep g h2 (by omega) (λe=>by rw[e,b] at f;simp at f);exact⟨keep X h.lt (by omega) (λe=>by have:=h.bx;rw[e,b] at this;simp at this),l,ar (l.trans f)⟩
theorem SpS.six{W:E}{R X q c k:Nat}{D:List DR}(h:SpS K w R X W q (T (Q g 0 Z)) c D)(n:D[k]?=T r)(r':DR)(t:DSub W (A (z w)+2) r')(u:FitK K r'.1):SpS K w R X (iF W g k r') q (T (Q g 0 Z)) c (D.set k r'):=by
 obtain⟨h1,h2,x,cs,ZS,l⟩:=h.gb;have hlo:=h.lo;have B:=pW W g k (A (z w)+2) r' h1;have hn:(D.set k r').length=D.length:=KQ;have b:∀s,DSub W (A (z w)+2) s->DSub (iF W g k r') (A (z w)+2) s:=λs f=>by
  refine f.far (λm _ j=>fe _ _ _ _ _ λe=>?_) λm _ j=>fe _ _ _ _ _ λe=>?_;{obtain⟨c0,z0,i⟩:=j;rw[e,l] at i;simp at i};{obtain⟨c0,z0,i⟩:=j;rw[e,l] at i;simp at i}
 refine⟨h.rd.low B (by omega),h.o.then (B.mono (by omega)),(B.block _ (by omega)).trans h.rs,?_,⟨?_,λs f=>?_⟩,nE h.az u,h.lo,h.hX,by rw[hn];exact h.num⟩;{rw[hn];exact(fe _ _ _ _ _ (λe=>x e.symm)).trans h.bx};{rw[hn];exact uP r' h.row.y n};{rcases LN f with p|rfl;{exact b s (h.row.sub s p)};{exact b _ t}}
theorem DSub.form{f:Nat}(h:DSub w b r)(l:r.2.1=Y (T (Q f 0 Z)) r.1.h g)(m:r.2.2=Y (T (Q i 0 Z)) r.1.f j):DSub w b (r.1,Y (T (Q f 0 Z)) r.1.h g,Y (T (Q i 0 Z)) r.1.f j):=by rw[<-l,<-m];exact h
theorem DSub.six{W:E}{k:Nat}{s:DR}{l:Array ZB}{ZS:Nat × Nat}(h:DSub W b s)(j:W.heap[g]?=T (N l 46 ZS)):DSub (iF W g k r') b s:=by
 refine h.far (λm _ i=>fe _ _ _ _ _ λe=>?_) λm _ i=>fe _ _ _ _ _ λe=>?_;{obtain⟨c0,z0,f⟩:=i;rw[e,j] at f;simp at f};{obtain⟨c0,z0,f⟩:=i;rw[e,j] at f;simp at f}
variable {K:Nat}
def noR:DR:=(fg,Y Z 0 0,Y Z 0 0)
theorem DO (n i:Nat)(h:i<n*6):(dt n)[i]?=(ddV noR)[i % 6]?:=by
 have e:(dt n)[i]?=T ((Value.agg #[U ⟨#[]⟩,J I 0,J I 0,U ⟨#[]⟩,Y Z 0 0,Y Z 0 0]).cells[i % 6]!):=by unfold dt madeCells;simp[h];rfl
 rw[e];have b:i % 6<6:=QE _ (by omega);generalize i % 6=j at b;rcases(show j=0∨j=1∨j=2∨j=3∨j=4∨j=5 by omega) with rfl|rfl|rfl|rfl|rfl|rfl<;>rfl
theorem yO (n:Nat):(dt n).toList=(List.replicate n noR).flatMap ddV:=by
 refine QC λi=>?_;by_cases h:i<n*6
 ·have e:i=i / 6*6+i % 6:=by omega
  rw[LD,DO n i h];conv=>rhs;rw[e]
  rw[cK ddV 6 (λ_=>rfl) _ (i / 6) (i % 6) (by omega) noR (by rw[List.getElem?_replicate,j6 (by omega)])]
 {have hz:(dt n).size=n*6:=size_madeCells _ _;rw[LJ (by rw[NO,hz];omega),LJ (by rw[eY ddV 6 (λ_=>rfl),NV];omega)]}
theorem Az (w:E)(b n:Nat)(hb:b<=A (z w))(hn:n<=1000):DRw (w.alloc (N (dt n) 46)) b (Y (T (Q (A (z w)) 0 Z)) n n) (List.replicate n noR):=by
 have hz:(dt n).size=n*6:=size_madeCells _ _;have g:((List.replicate n noR).flatMap ddV).length=n*6:=by rw[eY ddV 6 (λ_=>rfl),NV]
 refine⟨?_,λr f=>?_⟩;{rw[NV];refine⟨g,.inr ⟨A (z w),n,dt n,rfl,hb,gM w _,nX _,by unfold maxLen;omega,hz,?_⟩⟩;rw[<-yO,LQ (by rw[NO,hz];omega)]};{rw[List.eq_of_mem_replicate f];exact⟨CL _ _ _ _,CL _ _ _ _⟩}
theorem AA{W:E}{R X q c:Nat}{D:List DR}(h:SpS K w R X W q a c D)(hm:m<=450)(f:q<=ZM):DAK K w R ZM (ZF (ZG #[Y (T (Q (A (z W)) 0 Z)) m m])) ((W.setCell (Q (A (z w)+1) 0 Z) (Y (T (Q (A (z W)) 0 Z)) m m)).alloc (N (dt m) 46)):=by
 have hl:=h.lo;have hx:=h.lt;have hX:=h.hX;have hz:(W.setCell (Q (A (z w)+1) 0 Z) (Y (T (Q (A (z W)) 0 Z)) m m)).heap.size=A (z W):=by simp
 have B:=((cM (A (z w)) W).setCell (p:=(Q (A (z w)+1) 0 Z)) (D0 _) (Y (T (Q (A (z W)) 0 Z)) m m)).alloc (by rw[hz];omega) (N (dt m) 46);have b:=Az (W.setCell (Q (A (z w)+1) 0 Z) (Y (T (Q (A (z W)) 0 Z)) m m)) (A (z w)) m (by rw[hz];omega) (by omega);rw[hz] at b
 exact⟨T (Q (A (z W)) 0 Z),m,m,_,rfl,Ay b (by rw[NV]) (λr b=>by rw[List.eq_of_mem_replicate b];exact yN) (by rw[NV];omega),⟨q,f,h.rd.low B h.lo,h.o.then B⟩,by omega,λi hi=>by
  rw[gF (r:=noR) (by rw[List.getElem?_replicate,j6 hi])]
  exact FF⟩
theorem SpS.box_{W W':E}{R X q c:Nat}{g:Option Addr}{D b:List DR}(h:SpS K w R X W q a c D)(u:Below (A (z W)) W W')(n:W'.ownsRow (A (z w)+2) 46 6 (Y g b.length i) b.length (b.flatMap ddV))(ZS:∀r∈b,DSub W' (A (z w)+2) r)(ZR:∀r∈b,FitK K r.1)(hn:b.length<=450+K):SpS K w R X (W'.setCell (Q X 0 Z) (Y g b.length i)) q g i b:=by
 have j:=h.aa u;have hX:=h.hX;have hlo:=h.lo;have B:=(cM (A (z w)+2) W').setCell (p:=(Q X 0 Z)) hX (Y g b.length i);have far:∀m,m≠X->(W'.setCell (Q X 0 Z) (Y g b.length i)).heap[m]?=W'.heap[m]?:=λm y=>qh _ _ _ _ y;have l:∀m e,OfTy W' m e->e≠25->m≠X:=λm e f s x=>by obtain⟨c0,z0,C⟩:=f;have:=j.bx;rw[<-x,C] at this;simp at this;exact s this.2.1
 refine⟨j.rd.low B (by omega),j.o.then (B.mono (by omega)),(B.block _ (by omega)).trans j.rs,?_,⟨dP n λm _ f=>far m (l m _ f (by decide)),λr t=>(ZS r t).far (λm _ f=>far m (l m _ f (by decide))) (λm _ f=>far m (l m _ f (by decide)))⟩,ZR,h.lo,h.hX,hn⟩;exact ci j.bx _
theorem yP{base c k:Nat}{D:List DR}(hk:k<D.length)(hc:D.length<=c):∃f:Addr,(if c=k+1 then T ((Q g 0 Z):Addr) else T ⟨g,(k+1)*6,Z⟩)=T f /\
  ∀V:E,V.ownsRow base 46 6 (Y (T (Q g 0 Z)) D.length c) D.length (D.flatMap ddV)->∀j u,((D.drop (k+1)).flatMap ddV)[j]?=T u->V.cell? (f.add j)=T u:=by
 by_cases h:c=k+1;{refine⟨(Q g 0 Z),by rw[j6 h],λV i j u b=>?_⟩;rw[List.drop_eq_nil_of_le (by omega)] at b;simp at b}
 ·refine⟨⟨g,(k+1)*6,Z⟩,by rw[eT h],λV i j u b=>?_⟩
  have h1:=i.cells (g:=g) rfl ((k+1)*6+j) u (by
   have e:D.flatMap ddV=(D.take (k+1)).flatMap ddV++(D.drop (k+1)).flatMap ddV:=by rw[<-KE,NU]
   have l:((D.take (k+1)).flatMap ddV).length=(k+1)*6:=by rw[eY ddV 6 (λ_=>rfl),LY,MZ (by omega)]
   rw[e,KL (by omega),l,Nat.add_sub_cancel_left]
   exact b)
  rw[ik] at h1 ⊢;rwa[IT] at h1
theorem AE{c:Nat}{D:List DR}(k:Nat)(h:V.ownsRow b 46 6 (Y (T (Q g 0 Z)) D.length c) D.length (D.flatMap ddV)):∀j u,((D.take k).flatMap ddV)[j]?=T u->V.cell? (((Q g 0 Z):Addr).add j)=T u:=by
 intro j u f;refine h.cells (g:=g) rfl j u ?_;have e:D.flatMap ddV=(D.take k).flatMap ddV++(D.drop k).flatMap ddV:=by rw[<-KE,NU]
 rw[e,KP (j5.1 f).1];exact f
theorem qW (D:List DR)(h:∀r∈D,Som r):∀u∈D.flatMap ddV,u.oneCell'=true:=by intro u j;obtain⟨r,f,b⟩:=NE.1 j;obtain⟨⟨g,c,l⟩,g',c',i⟩:=h r f;simp only[ddV,l,i,A9,nj,NJ] at b;rcases b with rfl|rfl|rfl|rfl|rfl|rfl<;>rfl
