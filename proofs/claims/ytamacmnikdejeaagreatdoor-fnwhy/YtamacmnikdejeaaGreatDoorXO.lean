import Derived.Test.YtamacmnikdejeaaGreatDoorXA
import Derived.Test.YtamacmnikdejeaaGreatDoorXB
import Derived.Test.YtamacmnikdejeaaGreatDoorYB
open Go.Addr renaming mk->T
open Go.Value renaming slice->Y,string->U,int->I,agg->QV
open Option renaming none->Z,some->N
open Go.Obj renaming cells->Q
open Go.IntKind renaming i64->J
open Go renaming World->H,Value->QS
open Go.Ending renaming returned->QU
namespace Go.Proofs.YtamacmnikdejeaaGreatDoor.Vp
open RowKit Ca
structure FitD (x:aj):Prop where
 nm:x.name.size<=5000
 tx:x.text.size<=5000
 an:x.actN<=300
 asz:∀ j,j<x.actN->(x.act j).s.size<=5000
 ln:x.linksN<=300
 lsz:∀ j,j<x.linksN->(x.links j).name.size<=5000
theorem FitD.fits {x:aj}(h:FitD x):cS x:=⟨by have:=h.an;omega,by have:=h.ln;omega⟩
theorem FitD.sized {x:aj}(h:FitD x):eF x:=by
 have h1:=h.nm;have h2:=h.tx;have h3:=h.an;have h5:=h.ln;refine⟨by unfold maxLen;omega,by unfold maxLen;omega,⟨by omega,fun j b=>?_⟩,⟨by omega,fun j b=>?_⟩⟩
 ·have:=h.asz j b
  unfold maxLen;omega
 ·have:=h.lsz j b
  unfold maxLen;omega
structure FitK (K:Nat)(x:aj):Prop where
 nm:x.name.size<=5000
 tx:x.text.size<=2000+K
 an:x.actN<=200+K
 asz:∀ j,j<x.actN->(x.act j).s.size<=5000
 ln:x.linksN<=200+K
 lsz:∀ j,j<x.linksN->(x.links j).name.size<=5000
theorem FitK.d {K:Nat}{x:aj}(h:FitK K x)(hK:K<=90):FitD x:=⟨h.nm,by have:=h.tx;omega,by have:=h.an;omega,h.asz,by have:=h.ln;omega,h.lsz⟩
theorem FitK.up {K L:Nat}{x:aj}(h:FitK K x)(hK:K<=L):FitK L x:=⟨h.nm,by have:=h.tx;omega,by have:=h.an;omega,h.asz,by have:=h.ln;omega,h.lsz⟩
theorem Fe {K:Nat}:FitK K fq:=⟨by decide,by show 0<=2000+K;omega,AI _,fun j b=>absurd b (by simp[fq]),AI _,fun j b=>absurd b (by simp[fq])⟩
theorem yE:FitD fq:=⟨by decide,by decide,by decide,fun j b=>absurd b (by simp[fq]),by decide,fun j b=>absurd b (by simp[fq])⟩
theorem og {s:ByteArray}(h:av s=true):s.size<=60:=by unfold av at h;rw[gB,kP] at h;exact h.1.2
theorem Ds (S:Spc)(nm:ByteArray):∀ x∈aM S (aG S nm).1,FitD x/\x.text.size<=2000/\x.actN<=200/\x.linksN<=200:=by
 obtain⟨t,_,l⟩:=pO S nm;intro x r;obtain⟨e,i,rfl⟩:=JQ.1 r;have c:=t.ents e i;have u:=l (List.ne_nil_of_mem i);have h1:=og c.nm;have h2:=c.tx;have z:=c.looks;have n:(bk S (aG S nm).1 e).linksN=e.looks.length:=rfl;have g:(bk S (aG S nm).1 e).actN=cT S e:=rfl;have o:cT S e=0∨valid (S.f1 e.tg).act (S.f1 e.tg).actN=true/\cT S e=(S.f1 e.tg).actN:=by
  rcases c.kind with ⟨b,_⟩ | ⟨b,_⟩ | ⟨b,_,y⟩
  ·exact .inl (by unfold cT;rw[eI (by omega)])
  ·exact .inl (by unfold cT;rw[eI (by omega)])
  ·refine .inr ⟨u.act _ (bN y).1,?_⟩
   unfold cT;rw[gA b]
 have hn:cT S e<=200:=by
  rcases o with h | ⟨h,q⟩
  ·omega
  ·have:=(cJ h).2.2
   omega
 have p:∀ j,j<cT S e->((S.f1 e.tg).act j).s.size<=5000:=by
  intro j f;rcases o with h | ⟨h,q⟩
  ·omega
  ·have b:=nA (cJ h).1 (show j<_ by omega)
   unfold cK at b;rw[kP] at b;have hm:bW ((S.f1 e.tg).act j).op<=2000:=by unfold bW;split<;>omega
   omega
 have m:∀ j,j<e.looks.length->(lkF (aG S nm).1 e.looks j).name.size<=5000:=by intro j f;rw[kW (gq f)];have:=og (c.lname _ (gj f));show(e.looks[j]).name.size<=5000;omega
 exact⟨⟨by show e.name.size<=_;omega,by show e.text.size<=_;omega,by rw[g];omega,p,by rw[n];omega,m⟩,h2,by rw[g];exact hn,by rw[n];exact z⟩
structure HAc (base:Nat)(w:H)(a:Option Addr)(n c:Nat)(f:Nat->aj):Prop where
 sl:∀ V,Agr base w V->SlDeed V a n f
 cap:n<=c
 hn:n<=50000
 fit:∀ i,i<n->FitD (f i)
theorem HAc.agr {b:Nat}{w V:H}{a:Option Addr}{n c:Nat}{f:Nat->aj}(h:HAc b w a n c f)(g:Agr b w V):HAc b V a n c f:=⟨fun QY i=>h.sl QY (g.trans i),h.cap,h.hn,h.fit⟩
theorem HAc.mono {b g:Nat}{w:H}{a:Option Addr}{n c:Nat}{f:Nat->aj}(h:HAc b w a n c f)(hb:g<=b):HAc g w a n c f:=⟨fun QY i=>h.sl QY (i.mono hb),h.cap,h.hn,h.fit⟩
theorem HAc.here {b:Nat}{w:H}{a:Option Addr}{n c:Nat}{f:Nat->aj}(h:HAc b w a n c f):SlDeed w a n f:=h.sl w (Agr.refl _ _)
theorem DSub.agr {w V:H}{b:Nat}{r:DR}(h:DSub w b r)(c:Agr b w V):DSub V b r:=⟨eZ h.act c,eZ h.lnk c⟩
theorem DRow.agr {w V:H}{b:Nat}{v:QS}{R:List DR}(h:DRow w b v R)(c:Agr b w V):DRow V b v R:=⟨eZ h.own c,fun r f=>(h.sub r f).agr c,h.up⟩
theorem jO {w:H}{f size n i c:Nat}{e:TypeId}{a:Option Addr}{j:List QS}(h:w.ownsRow f e size (Y a n c) i j):n<=c:=by
 rcases h.2 with ⟨b,h0⟩ | ⟨g,cap,cur,b,hb,hg,hc,_⟩
 ·simp only[I5] at b
  omega
 ·simp only[I5] at b
  omega
theorem Ap {w:H}{b c:Nat}{a:Option Addr}{R:List DR}(h:DRow w b (Y a R.length c) R)(j:∀ r∈R,FitD r.1)(hn:R.length<=50000):HAc b w a R.length c (dF (R.map (·.1))):=by refine⟨fun V l=>(h.agr l).deeds,jO h.own,hn,fun i hi=>?_⟩;obtain⟨r,f,g⟩:=dI hi;rw[iF f];exact j r g
def DA (w:H)(R q:Nat)(e:Ending)(b:H):Prop:=∃ (a:Option Addr) (n c:Nat) (f:Nat->aj),e=QU (QV #[Y a n c])/\HAc w.heap.size b a n c f/\∃ q':Nat,q'<=q/\Rd b R q'/\Only R w b
def DAK (K:Nat)(w:H)(R q:Nat)(e:Ending)(b:H):Prop:=∃ (a:Option Addr) (n c:Nat) (f:Nat->aj),e=QU (QV #[Y a n c])/\HAc w.heap.size b a n c f/\(∃ q':Nat,q'<=q/\Rd b R q'/\Only R w b)/\n<=450+K/\∀ i,i<n->FitK K (f i)
theorem DAK.da {K:Nat}{w:H}{R q:Nat}{e:Ending}{b:H}(h:DAK K w R q e b):DA w R q e b:=by obtain⟨a,n,c,f,h1,h2,g,-⟩:=h;exact⟨a,n,c,f,h1,h2,g⟩
theorem kf {c:Type}(g:c->List QS)(C:Nat)(b:∀ x,(g x).length=C){j:Nat}(i:j<C){x y:c}{u:QS}(f:g y=(g x).set j u):∀ (L:List c) (k:Nat),L[k]?=N x->(L.flatMap g).set (k*C+j) u=(L.set k y).flatMap g
 | [],k,h=>by simp at h
 | z :: L,0,h=>by
  obtain rfl:z=x:=by simpa using h
  simp only[JU,List.set_cons_zero,OT,DN];rw[PS _ _ (by rw[b];exact i),f]
 | z :: L,k+1,h=>by
  have l:L[k]?=N x:=by simpa using h
  have e:(k+1)*C+j - C=k*C+j:=by rw[Nat.add_mul];omega
  simp only[JU,N9];rw[NI _ _ (by rw[b,Nat.add_mul];omega),b,e,kf g C b i f L k l]
structure DRw (w:H)(base:Nat)(v:QS)(R:List DR):Prop where
 own:w.ownsRow base 46 6 v R.length (R.flatMap ddV)
 sub:∀ r∈R,DSub w base r
theorem DRow.rw {w:H}{b:Nat}{v:QS}{R:List DR}(h:DRow w b v R):DRw w b v R:=⟨h.own,h.sub⟩
theorem DRw.agr {w V:H}{b:Nat}{v:QS}{R:List DR}(h:DRw w b v R)(c:Agr b w V):DRw V b v R:=⟨eZ h.own c,fun r f=>(h.sub r f).agr c⟩
theorem DRw.mono {w:H}{b base':Nat}{v:QS}{R:List DR}(h:DRw w b v R)(hb:base'<=b):DRw w base' v R:=⟨aE h.own hb,fun r c=>(h.sub r c).mono hb⟩
theorem DRw.below {w f:H}{b B:Nat}{v:QS}{R:List DR}(h:DRw w b v R)(hb:Below B w f)(c:w.heap.size<=B):DRw f b v R:=⟨own_below h.own hb c,fun r g=>(h.sub r g).below hb c⟩
theorem DRw.deeds {w:H}{b c:Nat}{a:Option Addr}{R:List DR}(h:DRw w b (Y a R.length c) R):SlDeed w a R.length (dF (R.map (·.1))):=by
 by_cases hz:R.length=0
 ·exact .inl hz
 ·obtain⟨g,c',e⟩:=d9 h.own (by omega)
  cases e
  refine .inr ⟨g,0,rfl,(dq h.own).2,fun i hi=>?_⟩;obtain⟨r,l,f⟩:=dI hi;rw[iF l];have c:∀ j,j<6->∀ u,(ddV r)[j]?=N u->w.cell? (T g (0+i*6+j) Z)=N u:=fun j x u q=>by rw[show 0+i*6+j=i*6+j by omega];exact(iL h.own l j x q).1
  obtain⟨m,c4,n,s⟩:=(h.sub r f).ins;obtain⟨p,c5,t,o⟩:=(h.sub r f).links;exact⟨c 0 (by omega) _ rfl,c 1 (by omega) _ rfl,c 2 (by omega) _ rfl,c 3 (by omega) _ rfl,⟨m,c4,by rw[<-n];exact c 4 (by omega) _ rfl,s⟩,⟨p,c5,by rw[<-t];exact c 5 (by omega) _ rfl,o⟩⟩
theorem Aq {w:H}{b n c:Nat}{a:Option Addr}{R:List DR}(h:DRw w b (Y a n c) R)(e:n=R.length)(j:∀ r∈R,FitD r.1)(hn:R.length<=50000):HAc b w a n c (dF (R.map (·.1))):=by subst e;refine⟨fun V l=>(h.agr l).deeds,jO h.own,hn,fun i hi=>?_⟩;obtain⟨r,f,g⟩:=dI hi;rw[iF f];exact j r g
theorem DSub.put {w:H}{b g j:Nat}{r:DR}{cs:Array QS}{fz:Nat × Nat}(h:DSub w b r)(c:w.heap[g]?=N (Q cs 46 fz))(u:QS):DSub (w.setCell (T g j Z) u) b r :=
 ⟨dP h.act c (by decide) u,dP h.lnk c (by decide) u⟩
theorem DRw.fld {w:H}{b g n c k j:Nat}{R:List DR}{r r':DR}{u:QS}(h:DRw w b (Y (N (T g 0 Z)) n c) R)(e:n=R.length)(p:R[k]?=N r)(s:j<6)(q:ddV r'=(ddV r).set j u)(m:DSub w b r'):DRw (w.setCell (T g (k*6+j) Z) u) b (Y (N (T g 0 Z)) n c) (R.set k r'):=by
 subst e;obtain⟨cs,z,f⟩:=fO h.own g rfl;have i:=gK (j:=k*6+j) h.own u;rw[kf ddV 6 (fun _=>rfl) s q R k p] at i;refine⟨by rw[JO];exact i,fun o l=>?_⟩;rcases J7 l with h2 | rfl
 ·exact(h.sub o h2).put f u
 ·exact m.put f u
theorem nO {P:aj->Prop}{R:List DR}{k:Nat}{r':DR}(h:∀ r∈R,P r.1)(b:P r'.1):∀ r∈R.set k r',P r.1:=fun r c=>by
 rcases J7 c with h2 | rfl
 ·exact h r h2
 ·exact b
variable {K:Nat}
structure SpS (K:Nat)(w:H)(R X:Nat)(W:H)(q:Nat)(a:Option Addr)(c:Nat)(D:List DR):Prop where
 rd:Rd W R q
 o:Only R w W
 rs:W.heap[w.heap.size+1]?=N (Q #[Y Z 0 0] 25 (0,0))
 bx:W.heap[X]?=N (Q #[Y a D.length c] 25 (0,0))
 row:DRw W (w.heap.size+2) (Y a D.length c) D
 fit:∀ r∈D,FitK K r.1
 lo:R<w.heap.size
 hX:w.heap.size+2<=X
 num:D.length<=450+K
section
variable {w W W':H}{R X q q' c g k j:Nat}{a:Option Addr}{D:List DR}{r r':DR}{u:QS}
theorem SpS.lt (h:SpS K w R X W q a c D):X<W.heap.size:=ai h.bx
theorem SpS.only (h:SpS K w R X W q a c D)(b:Only R W W')(hR:Rd W' R q'):SpS K w R X W' q' a c D:=by have hl:=h.lo;have hx:=h.hX;exact⟨hR,h.o.trans b,(b.block _ (ai h.rs) (by omega)).trans h.rs,(b.block _ h.lt (by omega)).trans h.bx,h.row.agr (b.agr (by omega)),h.fit,h.lo,h.hX,h.num⟩
theorem SpS.below (h:SpS K w R X W q a c D)(b:Below W.heap.size W W'):SpS K w R X W' q a c D:=h.only (Only.of_below b) (h.rd.below b ly)
theorem SpS.box (h:SpS K w R X W q a c D):W.cell? (T X 0 Z)=N (Y a D.length c)/\W.frozen? (T X 0 Z)=false:=by
 have hb:=h.bx;constructor
 ·simp[World.cell?,hb]
 ·simp[World.frozen?,hb]
theorem SpS.at_ (h:SpS K w R X W q (N (T g 0 Z)) c D)(b:D[k]?=N r)(f:j<6)(i:(ddV r)[j]?=N u):W.cell? (T g (k*6+j) Z)=N u/\W.frozen? (T g (k*6+j) Z)=false:=iL h.row.own b j f i
theorem SpS.gb (h:SpS K w R X W q (N (T g 0 Z)) c D):w.heap.size+2<=g/\g<W.heap.size/\g≠X/\∃ f z,W.heap[g]?=N (Q f 46 z):=by obtain⟨f,z,b⟩:=fO h.row.own g rfl;obtain⟨h1,h2⟩:=dq h.row.own;refine⟨h1,h2,fun e=>?_,f,z,b⟩;rw[e,h.bx] at b;simp at b
theorem SpS.put (h:SpS K w R X W q (N (T g 0 Z)) c D){b:List DR}(hn:b.length=D.length)(f:DRw (W.setCell (T g j Z) u) (w.heap.size+2) (Y (N (T g 0 Z)) D.length c) b)(l:∀ r∈b,FitK K r.1):SpS K w R X (W.setCell (T g j Z) u) q (N (T g 0 Z)) c b:=by
 obtain⟨h1,h2,i,cs,z,hg⟩:=h.gb;have hl:=h.lo;have B:=(eL (w.heap.size+2) W).setCell (p:=(T g j Z)) h1 u;refine⟨h.rd.low B (by omega),h.o.then (B.mono (by omega)),(B.block _ (by omega)).trans h.rs,?_,?_,l,h.lo,h.hX,by rw[hn];exact h.num⟩
 ·rw[hn]
  exact(qh _ _ _ _ (fun e=>i e.symm)).trans h.bx
 ·rw[hn]
  exact f
theorem SpS.fld (h:SpS K w R X W q (N (T g 0 Z)) c D)(i:D[k]?=N r)(l:j<6)(f:ddV r'=(ddV r).set j u)(b:DSub W (w.heap.size+2) r')(m:FitK K r'.1):SpS K w R X (W.setCell (T g (k*6+j) Z) u) q (N (T g 0 Z)) c (D.set k r') :=
 h.put JO (h.row.fld rfl i l f b) (nO h.fit m)
end
theorem SpS.fin {w W:H}{R X q c Q0:Nat}{a:Option Addr}{D:List DR}(h:SpS K w R X W q a c D)(f:K<=90)(j:q<=Q0):DAK K w R Q0 (QU (QV #[Y a D.length c])) (W.setCell (T (w.heap.size+1) 0 Z) (Y a D.length c)):=by
 have hl:=h.lo;have B:=(eL w.heap.size W).setCell (p:=(T (w.heap.size+1) 0 Z)) (vF _) (Y a D.length c);have g:Agr (w.heap.size+2) W (W.setCell (T (w.heap.size+1) 0 Z) (Y a D.length c)):=⟨by simp,fun k h1 _=>qh _ _ _ _ (by show k≠w.heap.size+1;omega)⟩
 exact⟨a,D.length,c,_,rfl,(Aq (h.row.agr g) rfl (fun r b=>(h.fit r b).d f) (by have:=h.num;omega)).mono (by omega),⟨q,j,h.rd.low B h.lo,h.o.then B⟩,h.num,fun i hi=>by
  obtain⟨r,b,l⟩:=dI hi;rw[iF b]
  exact h.fit r l⟩
def FitI (x:aj):Prop:=FitD x/\x.text.size<=2000/\x.actN<=200/\x.linksN<=200
theorem FitI.k {x:aj}(h:FitI x):FitK K x:=⟨h.1.nm,by have:=h.2.1;omega,by have:=h.2.2.1;omega,h.1.asz,by have:=h.2.2.2;omega,h.1.lsz⟩
theorem FitK.kind {x:aj}(h:FitK K x)(z:Int):FitK K { x with kind:=z }:=⟨h.nm,h.tx,h.an,h.asz,h.ln,h.lsz⟩
theorem FitK.code {x:aj}(h:FitK K x)(z:Int):FitK K { x with code:=z }:=⟨h.nm,h.tx,h.an,h.asz,h.ln,h.lsz⟩
theorem FitK.text {x:aj}(h:FitK K x){t:ByteArray}(b:t.size<=2000+K):FitK K { x with text:=t }:=⟨h.nm,b,h.an,h.asz,h.ln,h.lsz⟩
theorem FitK.name {x:aj}(h:FitK K x){t:ByteArray}(b:t.size<=5000):FitK K { x with name:=t }:=⟨b,h.tx,h.an,h.asz,h.ln,h.lsz⟩
theorem DSub.same {w:H}{b:Nat}{r:DR}(h:DSub w b r)(y:aj)(f:y.actN=r.1.actN)(c:y.act=r.1.act)(i:y.linksN=r.1.linksN)(g:y.links=r.1.links):DSub w b (y,r.2):=by
 refine⟨?_,?_⟩
 ·show w.ownsRow b 146 3 r.2.1 y.actN (cF y.act y.actN)
  rw[f,c];exact h.act
 ·show w.ownsRow b 129 4 r.2.2 y.linksN (bZ y.links y.linksN)
  rw[i,g];exact h.lnk
def ja (W:H)(g k:Nat)(r:DR):H:=(((((W.setCell (T g (k*6) Z) (U r.1.name)).setCell (T g (k*6+1) Z) (I J r.1.kind)).setCell (T g (k*6+2) Z) (I J r.1.code)).setCell (T g (k*6+3) Z) (U r.1.text)).setCell (T g (k*6+4) Z) r.2.1).setCell (T g (k*6+5) Z) r.2.2
theorem jt {W:H}{b g n c k j:Nat}{D:List DR}{r r':DR}{u:QS}(h:W.ownsRow b 46 6 (Y (N (T g 0 Z)) n c) n ((D.set k r).flatMap ddV))(i:k<D.length)(m:j<6)(l:ddV r'=(ddV r).set j u):(W.setCell (T g (k*6+j) Z) u).ownsRow b 46 6 (Y (N (T g 0 Z)) n c) n ((D.set k r').flatMap ddV):=by have f:=gK (j:=k*6+j) h u;rw[kf ddV 6 (fun _=>rfl) m l (D.set k r) k (by rw[KL i]),NT] at f;exact f
theorem uv {W:H}{b g n c k:Nat}{D:List DR}{r:DR}(r':DR)(h:W.ownsRow b 46 6 (Y (N (T g 0 Z)) n c) n (D.flatMap ddV))(p:D[k]?=N r):(ja W g k r').ownsRow b 46 6 (Y (N (T g 0 Z)) n c) n ((D.set k r').flatMap ddV):=by
 obtain⟨f,i⟩:=gM.1 p;have q:W.ownsRow b 46 6 (Y (N (T g 0 Z)) n c) n ((D.set k r).flatMap ddV):=by rw[<-i,List.set_getElem_self];exact h
 have h1:=jt (j:=0) (u:=U r'.1.name) (r':=({ r.1 with name:=r'.1.name },r.2)) q f (by omega) rfl;have h2:=jt (j:=1) (u:=I J r'.1.kind) (r':=({ r.1 with name:=r'.1.name,kind:=r'.1.kind },r.2)) h1 f (by omega) rfl;have m:=jt (j:=2) (u:=I J r'.1.code) (r':=({ r.1 with name:=r'.1.name,kind:=r'.1.kind,code:=r'.1.code },r.2)) h2 f (by omega) rfl;have l:=jt (j:=3) (u:=U r'.1.text) (r':=({ r.1 with name:=r'.1.name,kind:=r'.1.kind,code:=r'.1.code,text:=r'.1.text },r.2)) m f (by omega) rfl;have o:=jt (j:=4) (u:=r'.2.1) (r':=({ r.1 with name:=r'.1.name,kind:=r'.1.kind,code:=r'.1.code,text:=r'.1.text },r'.2.1,r.2.2)) l f (by omega) rfl;exact jt (j:=5) (u:=r'.2.2) (r':=r') o f (by omega) rfl
theorem fo (W:H)(g k m:Nat)(r:DR)(h:m≠g):(ja W g k r).heap[m]?=W.heap[m]?:=by unfold ja;repeat rw[qh _ _ _ _ (by show m≠g;exact h)]
theorem pX (W:H)(g k B:Nat)(r:DR)(h:B<=g):Below B W (ja W g k r) :=
 ((((((eL B W).setCell (p:=(T g (k*6) Z)) h _).setCell (p:=(T g (k*6+1) Z)) h _).setCell (p:=(T g (k*6+2) Z)) h _).setCell (p:=(T g (k*6+3) Z)) h _).setCell (p:=(T g (k*6+4) Z)) h _).setCell (p:=(T g (k*6+5) Z)) h _
theorem DSub.far {W W':H}{b:Nat}{r:DR}(h:DSub W b r)(c:∀ m,r.2.1.ownBlock=N m->OfTy W m 146->W'.heap[m]?=W.heap[m]?)(f:∀ m,r.2.2.ownBlock=N m->OfTy W m 129->W'.heap[m]?=W.heap[m]?):DSub W' b r:=⟨ez h.act c,ez h.lnk f⟩
theorem SpS.deed {w W W':H}{R X q q' c g k o QX:Nat}{D:List DR}{r:DR}(h:SpS K w R X W q (N (T g 0 Z)) c D)(Q9:D.Pairwise fun a b=>Apt a.2.1 b.2.1/\Apt a.2.2 b.2.2)(QY:D[k]?=N r)(Q2:r∈D)(M:r.2.2=Y (N (T o 0 Z)) r.1.linksN QX)
  (hR:Rd W' R q') (hO:Only R w W') (keep:∀ i,i<W.heap.size->i≠R->i≠o->W'.heap[i]?=W.heap[i]?) (r':DR) (V:DSub W' (w.heap.size+2) r') (hf:FitK K r'.1):SpS K w R X (ja W' g k r') q' (N (T g 0 Z)) c (D.set k r'):=by
 obtain⟨h1,h2,h3,cs,z,QZ⟩:=h.gb;have hlo:=h.lo;have hX:=h.hX;obtain⟨cl2,zl,x⟩:=fO (h.row.sub r Q2).lnk o (by rw[M];rfl);have hlb:w.heap.size+2<=o:=((h.row.sub r Q2).lnk.lt o (by rw[M];rfl)).1;have P:g≠o:=fun e=>by rw[e,x] at QZ;simp at QZ
 have S:X≠o:=fun e=>by have:=h.bx;rw[e,x] at this;simp at this
 have Q0:=keep g h2 (by omega) P;have B:=pX W' g k (w.heap.size+2) r' h1;have L:W'.ownsRow (w.heap.size+2) 46 6 (Y (N (T g 0 Z)) D.length c) D.length (D.flatMap ddV):=ez h.row.own fun m f _=>by
  obtain rfl:g=m:=by simpa[Value.ownBlock] using f
  exact Q0
 have hn:(D.set k r').length=D.length:=JO;have O:∀ m e,OfTy W m e->e≠129->w.heap.size+2<=m->W'.heap[m]?=W.heap[m]?:=fun m e l QW hb=>by obtain⟨c0,z0,j⟩:=l;exact keep m (ai j) (by omega) (fun p=>by rw[p,x] at j;simp at j;exact QW j.2.1.symm)
 have y:∀ s,DSub W' (w.heap.size+2) s->DSub (ja W' g k r') (w.heap.size+2) s:=fun s C=>by
  have G:W'.heap[g]?=N (Q cs 46 z):=Q0.trans QZ;refine C.far (fun m _ l=>fo _ _ _ _ _ fun e=>?_) (fun m _ l=>fo _ _ _ _ _ fun e=>?_)
  ·obtain⟨c0,z0,j⟩:=l
   rw[e,G] at j;simp at j
  ·obtain⟨c0,z0,j⟩:=l
   rw[e,G] at j;simp at j
 refine⟨hR.low B (by omega),hO.then (B.mono (by omega)),?_,?_,⟨?_,fun s C=>?_⟩,nO h.fit hf,h.lo,h.hX,by rw[hn];exact h.num⟩
 ·exact(B.block _ (by omega)).trans ((keep _ (ai h.rs) (by omega) (by omega)).trans h.rs)
 ·rw[hn]
  exact(fo _ _ _ _ _ (fun e=>h3 e.symm)).trans ((keep X h.lt (by omega) S).trans h.bx)
 ·rw[hn]
  exact uv r' L QY
 ·obtain⟨i,hi⟩:=KU C
  by_cases e:i=k
  ·subst e
   rw[KL (by rw[<-hn];exact(gM.1 hi).1)] at hi;obtain rfl:=ES hi;exact y _ V
  ·rw[LZ (fun p=>e p.symm)] at hi
   have t:=IF hi;refine y s ((h.row.sub s t).far (fun m f l=>O m _ l (by decide) ((h.row.sub s t).act.lt m f).1) (fun m f l=>?_));obtain⟨c0,z0,j⟩:=l;have hb:=((h.row.sub s t).lnk.lt m f).1;refine keep m (ai j) (by omega) (fun p=>?_);obtain⟨ZA,E⟩:=gM.1 hi;obtain⟨ZB,F⟩:=gM.1 QY;have A:r.2.2.ownBlock=N o:=by rw[M];rfl
   rcases Nat.lt_or_gt_of_ne e with u | u
   ·have:=(DC.1 Q9 i k ZA ZB u).2
    rw[E,F] at this;rcases this with n | n
    ·rw[f] at n;cases n
    ·exact n (by rw[f,A,p])
   ·have:=(DC.1 Q9 k i ZB ZA u).2
    rw[E,F] at this;rcases this with n | n
    ·rw[A] at n;cases n
    ·exact n (by rw[f,A,p])
theorem SpS.actK {w W W':H}{R X q c g f p l ca:Nat}{D:List DR}{r:DR}(h:SpS K w R X W q (N (T g 0 Z)) c D)(b:r∈D)(s:r.2.1=Y (N (T l 0 Z)) r.1.actN ca)(o:r.2.2=Y (N (T f 0 Z)) r.1.linksN p)(keep:∀ i,i<W.heap.size->i≠R->i≠f->W'.heap[i]?=W.heap[i]?):W'.ownsRow (w.heap.size+2) 146 3 (Y (N (T l 0 Z)) r.1.actN ca) r.1.actN (cF r.1.act r.1.actN):=by have hlo:=h.lo;obtain⟨cl2,zl,n⟩:=fO (h.row.sub r b).lnk f (by rw[o];rfl);rw[<-s];refine ez (h.row.sub r b).act fun m h1 h2=>?_;obtain⟨c0,z0,j⟩:=h2;have hb:=((h.row.sub r b).act.lt m h1).1;exact keep m (ai j) (by omega) (fun e=>by rw[e,n] at j;simp at j)
theorem SpS.kept {w W W':H}{R X q c g f o:Nat}{D:List DR}{r:DR}(h:SpS K w R X W q (N (T g 0 Z)) c D)(n:r∈D)(m:r.2.2=Y (N (T f 0 Z)) r.1.linksN o)(keep:∀ i,i<W.heap.size->i≠R->i≠f->W'.heap[i]?=W.heap[i]?):W'.heap[X]?=W.heap[X]?/\W'.heap[g]?=W.heap[g]?/\g<W'.heap.size:=by obtain⟨h1,h2,h3,cs,z,j⟩:=h.gb;have hlo:=h.lo;have hX:=h.hX;obtain⟨cl2,zl,b⟩:=fO (h.row.sub r n).lnk f (by rw[m];rfl);have l:=keep g h2 (by omega) (fun e=>by rw[e,b] at j;simp at j);exact⟨keep X h.lt (by omega) (fun e=>by have:=h.bx;rw[e,b] at this;simp at this),l,ai (l.trans j)⟩
theorem SpS.six {w W:H}{R X q c g k:Nat}{D:List DR}{r:DR}(h:SpS K w R X W q (N (T g 0 Z)) c D)(u:D[k]?=N r)(r':DR)(n:DSub W (w.heap.size+2) r')(x:FitK K r'.1):SpS K w R X (ja W g k r') q (N (T g 0 Z)) c (D.set k r'):=by
 obtain⟨h1,h2,p,cs,z,l⟩:=h.gb;have hlo:=h.lo;have B:=pX W g k (w.heap.size+2) r' h1;have hn:(D.set k r').length=D.length:=JO;have b:∀ s,DSub W (w.heap.size+2) s->DSub (ja W g k r') (w.heap.size+2) s:=fun s i=>by
  refine i.far (fun m _ j=>fo _ _ _ _ _ fun e=>?_) (fun m _ j=>fo _ _ _ _ _ fun e=>?_)
  ·obtain⟨c0,z0,f⟩:=j
   rw[e,l] at f;simp at f
  ·obtain⟨c0,z0,f⟩:=j
   rw[e,l] at f;simp at f
 refine⟨h.rd.low B (by omega),h.o.then (B.mono (by omega)),(B.block _ (by omega)).trans h.rs,?_,⟨?_,fun s i=>?_⟩,nO h.fit x,h.lo,h.hX,by rw[hn];exact h.num⟩
 ·rw[hn]
  exact(fo _ _ _ _ _ (fun e=>p e.symm)).trans h.bx
 ·rw[hn]
  exact uv r' h.row.own u
 ·rcases J7 i with t | rfl
  ·exact b s (h.row.sub s t)
  ·exact b _ n
theorem DSub.form {w:H}{b c ca g f:Nat}{r:DR}(h:DSub w b r)(j:r.2.1=Y (N (T c 0 Z)) r.1.actN ca)(i:r.2.2=Y (N (T g 0 Z)) r.1.linksN f):DSub w b (r.1,Y (N (T c 0 Z)) r.1.actN ca,Y (N (T g 0 Z)) r.1.linksN f):=by rw[<-j,<-i];exact h
theorem DSub.six {W:H}{b g k:Nat}{s r':DR}{j:Array QS}{z:Nat × Nat}(h:DSub W b s)(i:W.heap[g]?=N (Q j 46 z)):DSub (ja W g k r') b s:=by
 refine h.far (fun m _ f=>fo _ _ _ _ _ fun e=>?_) (fun m _ f=>fo _ _ _ _ _ fun e=>?_)
 ·obtain⟨c0,z0,c⟩:=f
  rw[e,i] at c;simp at c
 ·obtain⟨c0,z0,c⟩:=f
  rw[e,i] at c;simp at c
variable {K:Nat}
def noR:DR:=(fq,Y Z 0 0,Y Z 0 0)
theorem Dt (n i:Nat)(h:i<n*6):(dy n)[i]?=(ddV noR)[i % 6]?:=by
 have e:(dy n)[i]?=N ((Value.agg #[U ⟨#[]⟩,I J 0,I J 0,U ⟨#[]⟩,Y Z 0 0,Y Z 0 0]).cells[i % 6]!):=by unfold dy madeCells;simp[h];rfl
 rw[e];have b:i % 6<6:=NO _ (by omega);generalize i % 6=j at b;rcases(show j=0∨j=1∨j=2∨j=3∨j=4∨j=5 by omega) with rfl | rfl | rfl | rfl | rfl | rfl<;>rfl
theorem yF (n:Nat):(dy n).toList=(List.replicate n noR).flatMap ddV:=by
 refine NM fun i=>?_;by_cases h:i<n*6
 ·have e:i=i / 6*6+i % 6:=by omega
  rw[J0,Dt n i h];conv=>rhs;rw[e]
  rw[cW ddV 6 (fun _=>rfl) _ (i / 6) (i % 6) (by omega) noR (by rw[List.getElem?_replicate,gA (by omega)])]
 ·have hz:(dy n).size=n*6:=size_madeCells _ _
  rw[J2 (by rw[L9,hz];omega),J2 (by rw[fh ddV 6 (fun _=>rfl),ML];omega)]
theorem Ar (w:H)(b n:Nat)(hb:b<=w.heap.size)(hn:n<=1000):DRw (w.alloc (Q (dy n) 46)) b (Y (N (T w.heap.size 0 Z)) n n) (List.replicate n noR):=by
 have hz:(dy n).size=n*6:=size_madeCells _ _;have c:((List.replicate n noR).flatMap ddV).length=n*6:=by rw[fh ddV 6 (fun _=>rfl),ML]
 refine⟨?_,fun r f=>?_⟩
 ·rw[ML]
  refine⟨c,.inr ⟨w.heap.size,n,dy n,rfl,hb,cM w _,j5 _,by unfold maxLen;omega,hz,?_⟩⟩;rw[<-yF,J6 (by rw[L9,hz];omega)]
 ·rw[List.eq_of_mem_replicate f]
  exact⟨CP _ _ _ _,CP _ _ _ _⟩
theorem As {w W:H}{R X q c m Q0:Nat}{a:Option Addr}{D:List DR}(h:SpS K w R X W q a c D)(hm:m<=450)(f:q<=Q0):DAK K w R Q0 (QU (QV #[Y (N (T W.heap.size 0 Z)) m m])) ((W.setCell (T (w.heap.size+1) 0 Z) (Y (N (T W.heap.size 0 Z)) m m)).alloc (Q (dy m) 46)):=by
 have hl:=h.lo;have hx:=h.lt;have hX:=h.hX;have hz:(W.setCell (T (w.heap.size+1) 0 Z) (Y (N (T W.heap.size 0 Z)) m m)).heap.size=W.heap.size:=by simp
 have B:=((eL w.heap.size W).setCell (p:=(T (w.heap.size+1) 0 Z)) (vF _) (Y (N (T W.heap.size 0 Z)) m m)).alloc (by rw[hz];omega) (Q (dy m) 46);have b:=Ar (W.setCell (T (w.heap.size+1) 0 Z) (Y (N (T W.heap.size 0 Z)) m m)) w.heap.size m (by rw[hz];omega) (by omega);rw[hz] at b
 exact⟨N (T W.heap.size 0 Z),m,m,_,rfl,Aq b (by rw[ML]) (fun r b=>by rw[List.eq_of_mem_replicate b];exact yE) (by rw[ML];omega),⟨q,f,h.rd.low B h.lo,h.o.then B⟩,by omega,fun i hi=>by
  rw[iF (r:=noR) (by rw[List.getElem?_replicate,gA hi])]
  exact Fe⟩
theorem SpS.box_ {w W W':H}{R X q c j:Nat}{a g:Option Addr}{D b:List DR}(h:SpS K w R X W q a c D)(z:Below W.heap.size W W')(n:W'.ownsRow (w.heap.size+2) 46 6 (Y g b.length j) b.length (b.flatMap ddV))(s:∀ r∈b,DSub W' (w.heap.size+2) r)(C:∀ r∈b,FitK K r.1)(hn:b.length<=450+K):SpS K w R X (W'.setCell (T X 0 Z) (Y g b.length j)) q g j b:=by
 have i:=h.below z;have hX:=h.hX;have hlo:=h.lo;have B:=(eL (w.heap.size+2) W').setCell (p:=(T X 0 Z)) hX (Y g b.length j);have far:∀ m,m≠X->(W'.setCell (T X 0 Z) (Y g b.length j)).heap[m]?=W'.heap[m]?:=fun m t=>qh _ _ _ _ t;have l:∀ m e,OfTy W' m e->e≠25->m≠X:=fun m e f u A=>by obtain⟨c0,z0,y⟩:=f;have:=i.bx;rw[<-A,y] at this;simp at this;exact u this.2.1
 refine⟨i.rd.low B (by omega),i.o.then (B.mono (by omega)),(B.block _ (by omega)).trans i.rs,?_,⟨ez n fun m _ f=>far m (l m _ f (by decide)),fun r x=>(s r x).far (fun m _ f=>far m (l m _ f (by decide))) (fun m _ f=>far m (l m _ f (by decide)))⟩,C,h.lo,h.hX,hn⟩;exact bM i.bx _
theorem yG {base g c k:Nat}{D:List DR}(hk:k<D.length)(hc:D.length<=c):∃ i:Addr,(if c=k+1 then N ((T g 0 Z):Addr) else N ⟨g,(k+1)*6,Z⟩)=N i /\
  ∀ V:H,V.ownsRow base 46 6 (Y (N (T g 0 Z)) D.length c) D.length (D.flatMap ddV)->∀ j u,((D.drop (k+1)).flatMap ddV)[j]?=N u->V.cell? (i.add j)=N u:=by
 by_cases h:c=k+1
 ·refine⟨(T g 0 Z),by rw[gA h],fun V f j u b=>?_⟩
  rw[List.drop_eq_nil_of_le (by omega)] at b;simp at b
 ·refine⟨⟨g,(k+1)*6,Z⟩,by rw[eI h],fun V f j u b=>?_⟩
  have h1:=f.cells (g:=g) rfl ((k+1)*6+j) u (by
   have e:D.flatMap ddV=(D.take (k+1)).flatMap ddV++(D.drop (k+1)).flatMap ddV:=by rw[<-HH,LJ]
   have l:((D.take (k+1)).flatMap ddV).length=(k+1)*6:=by rw[fh ddV 6 (fun _=>rfl),JY,LE (by omega)]
   rw[e,p8 (by omega),l,Nat.add_sub_cancel_left]
   exact b)
  rw[gF] at h1 ⊢;rwa[DN] at h1
theorem Au {V:H}{b g c:Nat}{D:List DR}(k:Nat)(h:V.ownsRow b 46 6 (Y (N (T g 0 Z)) D.length c) D.length (D.flatMap ddV)):∀ j u,((D.take k).flatMap ddV)[j]?=N u->V.cell? (((T g 0 Z):Addr).add j)=N u:=by
 intro j u f;refine h.cells (g:=g) rfl j u ?_;have e:D.flatMap ddV=(D.take k).flatMap ddV++(D.drop k).flatMap ddV:=by rw[<-HH,LJ]
 rw[e,IH (gM.1 f).1];exact f
theorem qL (D:List DR)(h:∀ r∈D,Som r):∀ u∈D.flatMap ddV,u.oneCell'=true:=by intro u f;obtain⟨r,i,b⟩:=LN.1 f;obtain⟨⟨g,c,l⟩,g',c',j⟩:=h r i;simp only[ddV,l,j,nD,nj,MA] at b;rcases b with rfl | rfl | rfl | rfl | rfl | rfl<;>rfl
end Go.Proofs.YtamacmnikdejeaaGreatDoor.Vp
