import Derived.Test.YtpmnbjkjpnclaaaGreatDoorLX
import Derived.Test.YtpmnbjkjpnclaaaGreatDoorLY
import Derived.Test.YtpmnbjkjpnclaaaGreatDoorMY
open Go renaming Addr.mk->N,Value.slice->Y,Value.string->U,Value.int->Q,Value.agg->ZG,Obj.cells->J,IntKind.i64->I,World->M,Value->ZB,Ending.returned->ZD,World.heap->z
open Option renaming none->Z,some->T
open Array renaming size->A
namespace Go.Proofs.YtpmnbjkjpnclaaaGreatDoor.Vp
open RowKit Ca
variable {w W V W':M}{b g n j X q K f i ZN m:Nat}{r r':DR}{D R:List DR}{x:aj}{a:Option Addr}{u:ZB}{t:ByteArray}
structure FitD (x:aj):Prop where
 nm:x.e.size<=5000
 tx:x.y.size<=5000
 an:x.m<=300
 asz:∀j,j<x.m->(x.D j).s.size<=5000
 ln:x.l<=300
 lsz:∀j,j<x.l->(x.u j).e.size<=5000
theorem FitD.fits (h:FitD x):dQ x:=⟨by have:=h.an;omega,by have:=h.ln;omega⟩
theorem FitD.sized (h:FitD x):eQ x:=by
 have h1:=h.nm;have h2:=h.tx;have h3:=h.an;have h5:=h.ln;refine⟨by unfold maxLen;omega,by unfold maxLen;omega,⟨by omega,λj b=>?_⟩,⟨by omega,λj b=>?_⟩⟩;{have:=h.asz j b;unfold maxLen;omega};{have:=h.lsz j b;unfold maxLen;omega}
structure FitK (K:Nat)(x:aj):Prop where
 nm:x.e.size<=5000
 tx:x.y.size<=2000+K
 an:x.m<=200+K
 asz:∀j,j<x.m->(x.D j).s.size<=5000
 ln:x.l<=200+K
 lsz:∀j,j<x.l->(x.u j).e.size<=5000
theorem FitK.d (h:FitK K x)(hK:K<=90):FitD x:=⟨h.nm,by have:=h.tx;omega,by have:=h.an;omega,h.asz,by have:=h.ln;omega,h.lsz⟩
theorem FitK.up{L:Nat}(h:FitK K x)(hK:K<=L):FitK L x:=⟨h.nm,by have:=h.tx;omega,by have:=h.an;omega,h.asz,by have:=h.ln;omega,h.lsz⟩
theorem DY:FitK K dV:=⟨by decide,by show 0<=2000+K;omega,IH _,λj b=>absurd b (by simp[dV]),IH _,λj b=>absurd b (by simp[dV])⟩
theorem xp:FitD dV:=⟨by decide,by decide,by decide,λj b=>absurd b (by simp[dV]),by decide,λj b=>absurd b (by simp[dV])⟩
theorem mz{s:ByteArray}(h:aA s=true):s.size<=60:=by unfold aA at h;rw[p6,xT] at h;exact h.1.2
theorem Bl (S:Spc)(nm:ByteArray):∀x∈fT S (aX S nm).1,FitD x/\x.y.size<=2000/\x.m<=200/\x.l<=200:=by
 obtain⟨t,_,o⟩:=oG S nm;intro x ZR;obtain⟨e,n,rfl⟩:=KH.1 ZR;have f:=t.ao e n;have u:=o (List.ne_nil_of_mem n);have h1:=mz f.nm;have h2:=f.tx;have y:=f.looks;have p:(gE S (aX S nm).1 e).l=e.looks.length:=rfl;have m:(gE S (aX S nm).1 e).m=ez S e:=rfl;have l:ez S e=0∨valid (S.f1 e.tg).D (S.f1 e.tg).m=true/\ez S e=(S.f1 e.tg).m:=by
  rcases f.H with ⟨b,_⟩|⟨b,_⟩|⟨b,_,q⟩
  {exact .inl (by unfold ez;rw[eT (by omega)])};{exact .inl (by unfold ez;rw[eT (by omega)])};{refine .inr ⟨u.D _ (bA q).1,?_⟩;unfold ez;rw[nL b]}
 have hn:ez S e<=200:=by
  rcases l with h|⟨h,r⟩
  {omega};{have:=(bM h).2.2;omega}
 have ZS:∀j,j<ez S e->((S.f1 e.tg).D j).s.size<=5000:=by
  intro j g;rcases l with h|⟨h,r⟩
  {omega}
  ·have b:=iU (bM h).1 (show j<_ by omega);unfold b9 at b;rw[xT] at b;have hm:bF ((S.f1 e.tg).D j).op<=2000:=by unfold bF;split<;>omega
   omega
 have i:∀j,j<e.looks.length->(lkF (aX S nm).1 e.looks j).e.size<=5000:=by intro j g;rw[yw (gq g)];have:=mz (f.lname _ (gz g));show(e.looks[j]).e.size<=5000;omega
 exact⟨⟨by show e.e.size<=_;omega,by show e.y.size<=_;omega,by rw[m];omega,ZS,by rw[p];omega,i⟩,h2,by rw[m];exact hn,by rw[p];exact y⟩
structure HAc (base:Nat)(w:M)(a:Option Addr)(n c:Nat)(f:Nat->aj):Prop where
 sl:∀V,Agr base w V->SlDeed V a n f
 cap:n<=c
 hn:n<=50000
 az:∀i,i<n->FitD (f i)
theorem HAc.agr{c:Nat}{f:Nat->aj}(h:HAc b w a n c f)(i:Agr b w V):HAc b V a n c f:=⟨λZK g=>h.sl ZK (i.trans g),h.cap,h.hn,h.az⟩
theorem HAc.mono{c:Nat}{f:Nat->aj}(h:HAc b w a n c f)(hb:g<=b):HAc g w a n c f:=⟨λZK i=>h.sl ZK (i.mono hb),h.cap,h.hn,h.az⟩
theorem DSub.agr (h:DSub w b r)(f:Agr b w V):DSub V b r:=⟨d9 h.D f,d9 h.av f⟩
theorem DRow.agr{v:ZB}(h:DRow w b v R)(f:Agr b w V):DRow V b v R:=⟨d9 h.x f,λr g=>(h.sub r g).agr f,h.up⟩
theorem iS{size c:Nat}{e:TypeId}{j:List ZB}(h:w.ownsRow f e size (Y a n c) i j):n<=c:=by
 rcases h.2 with ⟨b,h0⟩|⟨g,cap,cur,b,hb,hg,hc,_⟩
 {simp only[JG] at b;omega};{simp only[JG] at b;omega}
theorem EW{c:Nat}(h:DRow w b (Y a R.length c) R)(l:∀r∈R,FitD r.1)(hn:R.length<=50000):HAc b w a R.length c (dF (R.map (·.1))):=by refine⟨λV j=>(h.agr j).bb,iS h.x,hn,λi hi=>?_⟩;obtain⟨r,g,f⟩:=cZ hi;rw[gB g];exact l r f
def DAK (K:Nat)(w:M)(R q:Nat)(e:Ending)(b:M):Prop:=∃(a:Option Addr) (n c:Nat) (f:Nat->aj),e=ZD (ZG #[Y a n c])/\HAc (A (z w)) b a n c f/\(∃q':Nat,q'<=q/\Rd b R q'/\Only R w b)/\n<=450+K/\∀i,i<n->FitK K (f i)
theorem jg {f:Type}(g:f->List ZB)(C:Nat)(b:∀x,(g x).length=C){j:Nat}(i:j<C){x y:f}{u:ZB}(l:g y=(g x).set j u):∀(L:List f) (k:Nat),L[k]?=T x->(L.flatMap g).set (k*C+j) u=(L.set k y).flatMap g
 |[],k,h=>by simp at h
 |ZS::L,0,h=>by
  obtain rfl:ZS=x:=by simpa using h
  simp only[JZ,List.set_cons_zero,OU,JC];rw[RJ _ _ (by rw[b];exact i),l]
 |ZS::L,k+1,h=>by
  have m:L[k]?=T x:=by simpa using h
  have e:(k+1)*C+j - C=k*C+j:=by rw[Nat.add_mul];omega
  simp only[JZ,PL];rw[NS _ _ (by rw[b,Nat.add_mul];omega),b,e,jg g C b i l L k m]
structure DRw (w:M)(base:Nat)(v:ZB)(R:List DR):Prop where
 x:w.ownsRow base 46 6 v R.length (R.flatMap ddV)
 sub:∀r∈R,DSub w base r
theorem DRow.rw{v:ZB}(h:DRow w b v R):DRw w b v R:=⟨h.x,h.sub⟩
theorem DRw.agr{v:ZB}(h:DRw w b v R)(f:Agr b w V):DRw V b v R:=⟨d9 h.x f,λr g=>(h.sub r g).agr f⟩
theorem DRw.mono{base':Nat}{v:ZB}(h:DRw w b v R)(hb:base'<=b):DRw w base' v R:=⟨aC h.x hb,λr f=>(h.sub r f).mono hb⟩
theorem DRw.aa{g:M}{B:Nat}{v:ZB}(h:DRw w b v R)(hb:Below B w g)(f:A (z w)<=B):DRw g b v R:=⟨own_below h.x hb f,λr i=>(h.sub r i).aa hb f⟩
theorem DRw.bb{c:Nat}(h:DRw w b (Y a R.length c) R):SlDeed w a R.length (dF (R.map (·.1))):=by
 by_cases hz:R.length=0;{exact .inl hz}
 ·obtain⟨g,c',e⟩:=cU h.x (by omega);cases e
  refine .inr ⟨g,0,rfl,(cO h.x).2,λi hi=>?_⟩;obtain⟨r,f,l⟩:=cZ hi;rw[gB f];have c:∀j,j<6->∀u,(ddV r)[j]?=T u->w.cell? (N g (0+i*6+j) Z)=T u:=λj s u n=>by rw[show 0+i*6+j=i*6+j by omega];exact(gL h.x f j s n).1
  obtain⟨x,c4,o,p⟩:=(h.sub r l).ins;obtain⟨q,c5,t,m⟩:=(h.sub r l).u;exact⟨c 0 (by omega) _ rfl,c 1 (by omega) _ rfl,c 2 (by omega) _ rfl,c 3 (by omega) _ rfl,⟨x,c4,by rw[<-o];exact c 4 (by omega) _ rfl,p⟩,⟨q,c5,by rw[<-t];exact c 5 (by omega) _ rfl,m⟩⟩
theorem yS{c:Nat}(h:DRw w b (Y a n c) R)(e:n=R.length)(l:∀r∈R,FitD r.1)(hn:R.length<=50000):HAc b w a n c (dF (R.map (·.1))):=by subst e;refine⟨λV j=>(h.agr j).bb,iS h.x,hn,λi hi=>?_⟩;obtain⟨r,g,f⟩:=cZ hi;rw[gB g];exact l r f
theorem DSub.put{i:Array ZB}{fz:Nat × Nat}(h:DSub w b r)(f:w.heap[g]?=T (J i 46 fz))(u:ZB):DSub (w.setCell (N g j Z) u) b r :=
 ⟨da h.D f (by decide) u,da h.av f (by decide) u⟩
theorem DRw.am{c k:Nat}(h:DRw w b (Y (T (N g 0 Z)) n c) R)(e:n=R.length)(m:R[k]?=T r)(q:j<6)(p:ddV r'=(ddV r).set j u)(s:DSub w b r'):DRw (w.setCell (N g (k*6+j) Z) u) b (Y (T (N g 0 Z)) n c) (R.set k r'):=by
 subst e;obtain⟨cs,ZS,i⟩:=eN h.x g rfl;have l:=fG (j:=k*6+j) h.x u;rw[jg ddV 6 (λ_=>rfl) q p R k m] at l;refine⟨by rw[JN];exact l,λo f=>?_⟩;rcases J5 f with h2|rfl;{exact(h.sub o h2).put i u};{exact s.put i u}
theorem mg{P:aj->Prop}{k:Nat}(h:∀r∈R,P r.1)(f:P r'.1):∀r∈R.set k r',P r.1:=λr b=>by
 rcases J5 b with h2|rfl
 ·exact h r h2
 ·exact f
variable {K:Nat}
structure SpS (K:Nat)(w:M)(R X:Nat)(W:M)(q:Nat)(a:Option Addr)(c:Nat)(D:List DR):Prop where
 rd:Rd W R q
 o:Only R w W
 rs:W.heap[A (z w)+1]?=T (J #[Y Z 0 0] 37 (0,0))
 bx:W.heap[X]?=T (J #[Y a D.length c] 37 (0,0))
 row:DRw W (A (z w)+2) (Y a D.length c) D
 az:∀r∈D,FitK K r.1
 lo:R<A (z w)
 hX:A (z w)+2<=X
 num:D.length<=450+K
section
variable {w W W':M}{R X q q' c g k j:Nat}{a:Option Addr}{D:List DR}{r r':DR}{u:ZB}
theorem SpS.lt (h:SpS K w R X W q a c D):X<A (z W):=ar h.bx
theorem SpS.ac (h:SpS K w R X W q a c D)(b:Only R W W')(hR:Rd W' R q'):SpS K w R X W' q' a c D:=by have hl:=h.lo;have hx:=h.hX;exact⟨hR,h.o.trans b,(b.block _ (ar h.rs) (by omega)).trans h.rs,(b.block _ h.lt (by omega)).trans h.bx,h.row.agr (b.agr (by omega)),h.az,h.lo,h.hX,h.num⟩
theorem SpS.aa (h:SpS K w R X W q a c D)(b:Below (A (z W)) W W'):SpS K w R X W' q a c D:=h.ac (Only.q b) (h.rd.aa b ly)
theorem SpS.ab (h:SpS K w R X W q a c D):W.cell? (N X 0 Z)=T (Y a D.length c)/\W.frozen? (N X 0 Z)=false:=by
 have hb:=h.bx;constructor;{simp[World.cell?,hb]};{simp[World.frozen?,hb]}
theorem SpS.G (h:SpS K w R X W q (T (N g 0 Z)) c D)(i:D[k]?=T r)(b:j<6)(f:(ddV r)[j]?=T u):W.cell? (N g (k*6+j) Z)=T u/\W.frozen? (N g (k*6+j) Z)=false:=gL h.row.x i j b f
theorem SpS.gb (h:SpS K w R X W q (T (N g 0 Z)) c D):A (z w)+2<=g/\g<A (z W)/\g≠X/\∃b ZS,W.heap[g]?=T (J b 46 ZS):=by obtain⟨b,ZS,f⟩:=eN h.row.x g rfl;obtain⟨h1,h2⟩:=cO h.row.x;refine⟨h1,h2,λe=>?_,b,ZS,f⟩;rw[e,h.bx] at f;simp at f
theorem SpS.put (h:SpS K w R X W q (T (N g 0 Z)) c D){b:List DR}(hn:b.length=D.length)(i:DRw (W.setCell (N g j Z) u) (A (z w)+2) (Y (T (N g 0 Z)) D.length c) b)(l:∀r∈b,FitK K r.1):SpS K w R X (W.setCell (N g j Z) u) q (T (N g 0 Z)) c b:=by
 obtain⟨h1,h2,f,cs,ZS,hg⟩:=h.gb;have hl:=h.lo;have B:=(cM (A (z w)+2) W).setCell (p:=(N g j Z)) h1 u;refine⟨h.rd.low B (by omega),h.o.then (B.mono (by omega)),(B.block _ (by omega)).trans h.rs,?_,?_,l,h.lo,h.hX,by rw[hn];exact h.num⟩;{rw[hn];exact(qh _ _ _ _ (λe=>f e.symm)).trans h.bx};{rw[hn];exact i}
theorem SpS.am (h:SpS K w R X W q (T (N g 0 Z)) c D)(f:D[k]?=T r)(b:j<6)(m:ddV r'=(ddV r).set j u)(i:DSub W (A (z w)+2) r')(l:FitK K r'.1):SpS K w R X (W.setCell (N g (k*6+j) Z) u) q (T (N g 0 Z)) c (D.set k r') :=
 h.put JN (h.row.am rfl f b m i) (mg h.az l)
end
theorem SpS.fin{R c:Nat}(h:SpS K w R X W q a c D)(j:K<=90)(f:q<=ZN):DAK K w R ZN (ZD (ZG #[Y a D.length c])) (W.setCell (N (A (z w)+1) 0 Z) (Y a D.length c)):=by
 have hl:=h.lo;have B:=(cM (A (z w)) W).setCell (p:=(N (A (z w)+1) 0 Z)) (JH _) (Y a D.length c);have g:Agr (A (z w)+2) W (W.setCell (N (A (z w)+1) 0 Z) (Y a D.length c)):=⟨by simp,λk h1 _=>qh _ _ _ _ (by show k≠A (z w)+1;omega)⟩
 exact⟨a,D.length,c,_,rfl,(yS (h.row.agr g) rfl (λr b=>(h.az r b).d j) (by have:=h.num;omega)).mono (by omega),⟨q,f,h.rd.low B h.lo,h.o.then B⟩,h.num,λi hi=>by
  obtain⟨r,b,l⟩:=cZ hi;rw[gB b]
  exact h.az r l⟩
def FitI (x:aj):Prop:=FitD x/\x.y.size<=2000/\x.m<=200/\x.l<=200
theorem FitI.k (h:FitI x):FitK K x:=⟨h.1.nm,by have:=h.2.1;omega,by have:=h.2.2.1;omega,h.1.asz,by have:=h.2.2.2;omega,h.1.lsz⟩
theorem FitK.H (h:FitK K x)(ZS:Int):FitK K { x with H:=ZS }:=⟨h.nm,h.tx,h.an,h.asz,h.ln,h.lsz⟩
theorem FitK.E (h:FitK K x)(ZS:Int):FitK K { x with E:=ZS }:=⟨h.nm,h.tx,h.an,h.asz,h.ln,h.lsz⟩
theorem FitK.y (h:FitK K x)(b:t.size<=2000+K):FitK K { x with y:=t }:=⟨h.nm,b,h.an,h.asz,h.ln,h.lsz⟩
theorem FitK.e (h:FitK K x)(b:t.size<=5000):FitK K { x with e:=t }:=⟨b,h.tx,h.an,h.asz,h.ln,h.lsz⟩
theorem DSub.same (h:DSub w b r)(y:aj)(f:y.m=r.1.m)(j:y.D=r.1.D)(i:y.l=r.1.l)(g:y.u=r.1.u):DSub w b (y,r.2):=by
 refine⟨?_,?_⟩;{show w.ownsRow b 151 3 r.2.1 y.m (bX y.D y.m);rw[f,j];exact h.D};{show w.ownsRow b 91 4 r.2.2 y.l (bQ y.u y.l);rw[i,g];exact h.av}
def ii (W:M)(g k:Nat)(r:DR):M:=(((((W.setCell (N g (k*6) Z) (U r.1.e)).setCell (N g (k*6+1) Z) (Q I r.1.H)).setCell (N g (k*6+2) Z) (Q I r.1.E)).setCell (N g (k*6+3) Z) (U r.1.y)).setCell (N g (k*6+4) Z) r.2.1).setCell (N g (k*6+5) Z) r.2.2
theorem iF{c k:Nat}(h:W.ownsRow b 46 6 (Y (T (N g 0 Z)) n c) n ((D.set k r).flatMap ddV))(l:k<D.length)(i:j<6)(m:ddV r'=(ddV r).set j u):(W.setCell (N g (k*6+j) Z) u).ownsRow b 46 6 (Y (T (N g 0 Z)) n c) n ((D.set k r').flatMap ddV):=by have f:=fG (j:=k*6+j) h u;rw[jg ddV 6 (λ_=>rfl) i m (D.set k r) k (by rw[KM l]),QO] at f;exact f
theorem tr{c k:Nat}(r':DR)(h:W.ownsRow b 46 6 (Y (T (N g 0 Z)) n c) n (D.flatMap ddV))(i:D[k]?=T r):(ii W g k r').ownsRow b 46 6 (Y (T (N g 0 Z)) n c) n ((D.set k r').flatMap ddV):=by
 obtain⟨f,o⟩:=p9.1 i;have l:W.ownsRow b 46 6 (Y (T (N g 0 Z)) n c) n ((D.set k r).flatMap ddV):=by rw[<-o,List.set_getElem_self];exact h
 have h1:=iF (j:=0) (u:=U r'.1.e) (r':=({ r.1 with e:=r'.1.e },r.2)) l f (by omega) rfl;have h2:=iF (j:=1) (u:=Q I r'.1.H) (r':=({ r.1 with e:=r'.1.e,H:=r'.1.H },r.2)) h1 f (by omega) rfl;have q:=iF (j:=2) (u:=Q I r'.1.E) (r':=({ r.1 with e:=r'.1.e,H:=r'.1.H,E:=r'.1.E },r.2)) h2 f (by omega) rfl;have p:=iF (j:=3) (u:=U r'.1.y) (r':=({ r.1 with e:=r'.1.e,H:=r'.1.H,E:=r'.1.E,y:=r'.1.y },r.2)) q f (by omega) rfl;have m:=iF (j:=4) (u:=r'.2.1) (r':=({ r.1 with e:=r'.1.e,H:=r'.1.H,E:=r'.1.E,y:=r'.1.y },r'.2.1,r.2.2)) p f (by omega) rfl;exact iF (j:=5) (u:=r'.2.2) (r':=r') m f (by omega) rfl
theorem eA (W:M)(g k m:Nat)(r:DR)(h:m≠g):(ii W g k r).heap[m]?=W.heap[m]?:=by unfold ii;repeat rw[qh _ _ _ _ (by show m≠g;exact h)]
theorem oK (W:M)(g k B:Nat)(r:DR)(h:B<=g):Below B W (ii W g k r) :=
 ((((((cM B W).setCell (p:=(N g (k*6) Z)) h _).setCell (p:=(N g (k*6+1) Z)) h _).setCell (p:=(N g (k*6+2) Z)) h _).setCell (p:=(N g (k*6+3) Z)) h _).setCell (p:=(N g (k*6+4) Z)) h _).setCell (p:=(N g (k*6+5) Z)) h _
theorem DSub.far (h:DSub W b r)(g:∀m,r.2.1.ownBlock=T m->OfTy W m 151->W'.heap[m]?=W.heap[m]?)(f:∀m,r.2.2.ownBlock=T m->OfTy W m 91->W'.heap[m]?=W.heap[m]?):DSub W' b r:=⟨cy h.D g,cy h.av f⟩
theorem SpS.deed{R q' c k o ZI:Nat}(h:SpS K w R X W q (T (N g 0 Z)) c D)(L:D.Pairwise λa b=>Apt a.2.1 b.2.1/\Apt a.2.2 b.2.2)(P:D[k]?=T r)(V:r∈D)(ZM:r.2.2=Y (T (N o 0 Z)) r.1.l ZI)
  (hR:Rd W' R q') (hO:Only R w W') (keep:∀i,i<A (z W)->i≠R->i≠o->W'.heap[i]?=W.heap[i]?) (r':DR) (hs:DSub W' (A (z w)+2) r') (ZJ:FitK K r'.1):SpS K w R X (ii W' g k r') q' (T (N g 0 Z)) c (D.set k r'):=by
 obtain⟨h1,h2,h3,cs,ZS,O⟩:=h.gb;have hlo:=h.lo;have hX:=h.hX;obtain⟨cl2,zl,C⟩:=eN (h.row.sub r V).av o (by rw[ZM];rfl);have hlb:A (z w)+2<=o:=((h.row.sub r V).av.lt o (by rw[ZM];rfl)).1;have S:g≠o:=λe=>by rw[e,C] at O;simp at O
 have ZK:X≠o:=λe=>by have:=h.bx;rw[e,C] at this;simp at this
 have ZL:=keep g h2 (by omega) S;have B:=oK W' g k (A (z w)+2) r' h1;have ZQ:W'.ownsRow (A (z w)+2) 46 6 (Y (T (N g 0 Z)) D.length c) D.length (D.flatMap ddV):=cy h.row.x λm f _=>by
  obtain rfl:g=m:=by simpa[Value.ownBlock] using f
  exact ZL
 have hn:(D.set k r').length=D.length:=JN;have ZN:∀m e,OfTy W m e->e≠91->A (z w)+2<=m->W'.heap[m]?=W.heap[m]?:=λm e n he hb=>by obtain⟨c0,z0,j⟩:=n;exact keep m (ar j) (by omega) λp=>by rw[p,C] at j;simp at j;exact he j.2.1.symm
 have u:∀s,DSub W' (A (z w)+2) s->DSub (ii W' g k r') (A (z w)+2) s:=λs t=>by
  have ZP:W'.heap[g]?=T (J cs 46 ZS):=ZL.trans O;refine t.far (λm _ n=>eA _ _ _ _ _ λe=>?_) λm _ n=>eA _ _ _ _ _ λe=>?_;{obtain⟨c0,z0,j⟩:=n;rw[e,ZP] at j;simp at j};{obtain⟨c0,z0,j⟩:=n;rw[e,ZP] at j;simp at j}
 refine⟨hR.low B (by omega),hO.then (B.mono (by omega)),?_,?_,⟨?_,λs t=>?_⟩,mg h.az ZJ,h.lo,h.hX,by rw[hn];exact h.num⟩;{exact(B.block _ (by omega)).trans ((keep _ (ar h.rs) (by omega) (by omega)).trans h.rs)};{rw[hn];exact(eA _ _ _ _ _ (λe=>h3 e.symm)).trans ((keep X h.lt (by omega) ZK).trans h.bx)};{rw[hn];exact tr r' ZQ P}
 ·obtain⟨i,hi⟩:=LF t;by_cases e:i=k;{subst e;rw[KM (by rw[<-hn];exact(p9.1 hi).1)] at hi;obtain rfl:=IT hi;exact u _ hs}
  ·rw[LZ (λp=>e p.symm)] at hi;have y:=JF hi;refine u s ((h.row.sub s y).far (λm f n=>ZN m _ n (by decide) ((h.row.sub s y).D.lt m f).1) (λm f n=>?_));obtain⟨c0,z0,j⟩:=n;have hb:=((h.row.sub s y).av.lt m f).1;refine keep m (ar j) (by omega) λp=>?_;obtain⟨ZO,E⟩:=p9.1 hi;obtain⟨G,H⟩:=p9.1 P;have x:r.2.2.ownBlock=T o:=by rw[ZM];rfl
   rcases Nat.lt_or_gt_of_ne e with ZR|ZR;{have:=(KF.1 L i k ZO G ZR).2;rw[E,H] at this;rcases this with l|l;{rw[f] at l;cases l};{exact l (by rw[f,x,p])}};{have:=(KF.1 L k i G ZO ZR).2;rw[E,H] at this;rcases this with l|l;{rw[x] at l;cases l};{exact l (by rw[f,x,p])}}
theorem SpS.actK{R c s l:Nat}(h:SpS K w R X W q (T (N g 0 Z)) c D)(f:r∈D)(p:r.2.1=Y (T (N l 0 Z)) r.1.m n)(t:r.2.2=Y (T (N j 0 Z)) r.1.l s)(keep:∀i,i<A (z W)->i≠R->i≠j->W'.heap[i]?=W.heap[i]?):W'.ownsRow (A (z w)+2) 151 3 (Y (T (N l 0 Z)) r.1.m n) r.1.m (bX r.1.D r.1.m):=by have hlo:=h.lo;obtain⟨cl2,zl,o⟩:=eN (h.row.sub r f).av j (by rw[t];rfl);rw[<-p];refine cy (h.row.sub r f).D λm h1 h2=>?_;obtain⟨c0,z0,b⟩:=h2;have hb:=((h.row.sub r f).D.lt m h1).1;exact keep m (ar b) (by omega) (λe=>by rw[e,o] at b;simp at b)
theorem SpS.kept{R c:Nat}(h:SpS K w R X W q (T (N g 0 Z)) c D)(n:r∈D)(o:r.2.2=Y (T (N j 0 Z)) r.1.l m)(keep:∀i,i<A (z W)->i≠R->i≠j->W'.heap[i]?=W.heap[i]?):W'.heap[X]?=W.heap[X]?/\W'.heap[g]?=W.heap[g]?/\g<A (z W'):=by obtain⟨h1,h2,h3,cs,ZS,f⟩:=h.gb;have hlo:=h.lo;have hX:=h.hX;obtain⟨cl2,zl,b⟩:=eN (h.row.sub r n).av j (by rw[o];rfl);have l:=keep g h2 (by omega) (λe=>by rw[e,b] at f;simp at f);exact⟨keep X h.lt (by omega) (λe=>by have:=h.bx;rw[e,b] at this;simp at this),l,ar (l.trans f)⟩
theorem SpS.six{R c k:Nat}(h:SpS K w R X W q (T (N g 0 Z)) c D)(p:D[k]?=T r)(r':DR)(x:DSub W (A (z w)+2) r')(t:FitK K r'.1):SpS K w R X (ii W g k r') q (T (N g 0 Z)) c (D.set k r'):=by
 obtain⟨h1,h2,u,cs,ZS,l⟩:=h.gb;have hlo:=h.lo;have B:=oK W g k (A (z w)+2) r' h1;have hn:(D.set k r').length=D.length:=JN;have f:∀s,DSub W (A (z w)+2) s->DSub (ii W g k r') (A (z w)+2) s:=λs b=>by
  refine b.far (λm _ j=>eA _ _ _ _ _ λe=>?_) λm _ j=>eA _ _ _ _ _ λe=>?_;{obtain⟨c0,z0,i⟩:=j;rw[e,l] at i;simp at i};{obtain⟨c0,z0,i⟩:=j;rw[e,l] at i;simp at i}
 refine⟨h.rd.low B (by omega),h.o.then (B.mono (by omega)),(B.block _ (by omega)).trans h.rs,?_,⟨?_,λs b=>?_⟩,mg h.az t,h.lo,h.hX,by rw[hn];exact h.num⟩;{rw[hn];exact(eA _ _ _ _ _ (λe=>u e.symm)).trans h.bx};{rw[hn];exact tr r' h.row.x p};{rcases J5 b with n|rfl;{exact f s (h.row.sub s n)};{exact f _ x}}
theorem DSub.form (h:DSub w b r)(l:r.2.1=Y (T (N f 0 Z)) r.1.m i)(m:r.2.2=Y (T (N j 0 Z)) r.1.l g):DSub w b (r.1,Y (T (N f 0 Z)) r.1.m i,Y (T (N j 0 Z)) r.1.l g):=by rw[<-l,<-m];exact h
theorem DSub.six{k:Nat}{s:DR}{l:Array ZB}{ZS:Nat × Nat}(h:DSub W f s)(j:W.heap[g]?=T (J l 46 ZS)):DSub (ii W g k r') f s:=by
 refine h.far (λm _ i=>eA _ _ _ _ _ λe=>?_) λm _ i=>eA _ _ _ _ _ λe=>?_;{obtain⟨c0,z0,b⟩:=i;rw[e,j] at b;simp at b};{obtain⟨c0,z0,b⟩:=i;rw[e,j] at b;simp at b}
variable {K:Nat}
def noR:DR:=(dV,Y Z 0 0,Y Z 0 0)
theorem Bm (n i:Nat)(h:i<n*6):(cV n)[i]?=(ddV noR)[i % 6]?:=by
 have e:(cV n)[i]?=T ((Value.agg #[U ⟨#[]⟩,Q I 0,Q I 0,U ⟨#[]⟩,Y Z 0 0,Y Z 0 0]).cells[i % 6]!):=by unfold cV madeCells;simp[h];rfl
 rw[e];have b:i % 6<6:=N9 _ (by omega);generalize i % 6=j at b;rcases(show j=0∨j=1∨j=2∨j=3∨j=4∨j=5 by omega) with rfl|rfl|rfl|rfl|rfl|rfl<;>rfl
theorem xq (n:Nat):(cV n).toList=(List.replicate n noR).flatMap ddV:=by
 refine NY λi=>?_;by_cases h:i<n*6
 ·have e:i=i / 6*6+i % 6:=by omega
  rw[JQ,Bm n i h];conv=>rhs;rw[e]
  rw[cF ddV 6 (λ_=>rfl) _ (i / 6) (i % 6) (by omega) noR (by rw[List.getElem?_replicate,nL (by omega)])]
 {have hz:(cV n).size=n*6:=size_madeCells _ _;rw[JR (by rw[ME,hz];omega),JR (by rw[ek ddV 6 (λ_=>rfl),MR];omega)]}
theorem yT (w:M)(b n:Nat)(hb:b<=A (z w))(hn:n<=1000):DRw (w.alloc (J (cV n) 46)) b (Y (T (N (A (z w)) 0 Z)) n n) (List.replicate n noR):=by
 have hz:(cV n).size=n*6:=size_madeCells _ _;have g:((List.replicate n noR).flatMap ddV).length=n*6:=by rw[ek ddV 6 (λ_=>rfl),MR]
 refine⟨?_,λr f=>?_⟩;{rw[MR];refine⟨g,.inr ⟨A (z w),n,cV n,rfl,hb,gM w _,nX _,by unfold maxLen;omega,hz,?_⟩⟩;rw[<-xq,KI (by rw[ME,hz];omega)]};{rw[List.eq_of_mem_replicate f];exact⟨ES _ _ _ _,ES _ _ _ _⟩}
theorem yU{R c:Nat}(h:SpS K w R X W q a c D)(hm:m<=450)(f:q<=ZN):DAK K w R ZN (ZD (ZG #[Y (T (N (A (z W)) 0 Z)) m m])) ((W.setCell (N (A (z w)+1) 0 Z) (Y (T (N (A (z W)) 0 Z)) m m)).alloc (J (cV m) 46)):=by
 have hl:=h.lo;have hx:=h.lt;have hX:=h.hX;have hz:(W.setCell (N (A (z w)+1) 0 Z) (Y (T (N (A (z W)) 0 Z)) m m)).heap.size=A (z W):=by simp
 have B:=((cM (A (z w)) W).setCell (p:=(N (A (z w)+1) 0 Z)) (JH _) (Y (T (N (A (z W)) 0 Z)) m m)).alloc (by rw[hz];omega) (J (cV m) 46);have b:=yT (W.setCell (N (A (z w)+1) 0 Z) (Y (T (N (A (z W)) 0 Z)) m m)) (A (z w)) m (by rw[hz];omega) (by omega);rw[hz] at b
 exact⟨T (N (A (z W)) 0 Z),m,m,_,rfl,yS b (by rw[MR]) (λr b=>by rw[List.eq_of_mem_replicate b];exact xp) (by rw[MR];omega),⟨q,f,h.rd.low B h.lo,h.o.then B⟩,by omega,λi hi=>by
  rw[gB (r:=noR) (by rw[List.getElem?_replicate,nL hi])]
  exact DY⟩
theorem SpS.box_{R c:Nat}{g:Option Addr}{b:List DR}(h:SpS K w R X W q a c D)(ZR:Below (A (z W)) W W')(l:W'.ownsRow (A (z w)+2) 46 6 (Y g b.length j) b.length (b.flatMap ddV))(ZS:∀r∈b,DSub W' (A (z w)+2) r)(u:∀r∈b,FitK K r.1)(hn:b.length<=450+K):SpS K w R X (W'.setCell (N X 0 Z) (Y g b.length j)) q g j b:=by
 have i:=h.aa ZR;have hX:=h.hX;have hlo:=h.lo;have B:=(cM (A (z w)+2) W').setCell (p:=(N X 0 Z)) hX (Y g b.length j);have far:∀m,m≠X->(W'.setCell (N X 0 Z) (Y g b.length j)).heap[m]?=W'.heap[m]?:=λm y=>qh _ _ _ _ y;have n:∀m e,OfTy W' m e->e≠37->m≠X:=λm e f t C=>by obtain⟨c0,z0,x⟩:=f;have:=i.bx;rw[<-C,x] at this;simp at this;exact t this.2.1
 refine⟨i.rd.low B (by omega),i.o.then (B.mono (by omega)),(B.block _ (by omega)).trans i.rs,?_,⟨cy l λm _ f=>far m (n m _ f (by decide)),λr s=>(ZS r s).far (λm _ f=>far m (n m _ f (by decide))) (λm _ f=>far m (n m _ f (by decide)))⟩,u,h.lo,h.hX,hn⟩;exact bJ i.bx _
theorem xr{base c k:Nat}(hk:k<D.length)(hc:D.length<=c):∃i:Addr,(if c=k+1 then T ((N g 0 Z):Addr) else T ⟨g,(k+1)*6,Z⟩)=T i /\
  ∀V:M,V.ownsRow base 46 6 (Y (T (N g 0 Z)) D.length c) D.length (D.flatMap ddV)->∀j u,((D.drop (k+1)).flatMap ddV)[j]?=T u->V.cell? (i.add j)=T u:=by
 by_cases h:c=k+1;{refine⟨(N g 0 Z),by rw[nL h],λV f j u b=>?_⟩;rw[List.drop_eq_nil_of_le (by omega)] at b;simp at b}
 ·refine⟨⟨g,(k+1)*6,Z⟩,by rw[eT h],λV f j u b=>?_⟩
  have h1:=f.cells (g:=g) rfl ((k+1)*6+j) u (by
   have e:D.flatMap ddV=(D.take (k+1)).flatMap ddV++(D.drop (k+1)).flatMap ddV:=by rw[<-JA,MQ]
   have l:((D.take (k+1)).flatMap ddV).length=(k+1)*6:=by rw[ek ddV 6 (λ_=>rfl),KN,MB (by omega)]
   rw[e,JP (by omega),l,Nat.add_sub_cancel_left]
   exact b)
  rw[fB] at h1 ⊢;rwa[JC] at h1
theorem yV{c:Nat}(k:Nat)(h:V.ownsRow b 46 6 (Y (T (N g 0 Z)) D.length c) D.length (D.flatMap ddV)):∀j u,((D.take k).flatMap ddV)[j]?=T u->V.cell? (((N g 0 Z):Addr).add j)=T u:=by
 intro j u f;refine h.cells (g:=g) rfl j u ?_;have e:D.flatMap ddV=(D.take k).flatMap ddV++(D.drop k).flatMap ddV:=by rw[<-JA,MQ]
 rw[e,JU (p9.1 f).1];exact f
theorem pF (D:List DR)(h:∀r∈D,Som r):∀u∈D.flatMap ddV,u.oneCell'=true:=by intro u f;obtain⟨r,i,b⟩:=LN.1 f;obtain⟨⟨g,c,j⟩,g',c',l⟩:=h r i;simp only[ddV,j,l,BO,nj,RH] at b;rcases b with rfl|rfl|rfl|rfl|rfl|rfl<;>rfl
