import Derived.Test.YtamacmnikdejeaaGreatDoorRT
import Derived.Test.YtamacmnikdejeaaGreatDoorRU
import Derived.Test.YtamacmnikdejeaaGreatDoorSX
open Go.Addr renaming mk->N
open Go.Value renaming slice->Y,string->U,int->J,agg->QG
open Option renaming none->Z,some->T
open Go.Obj renaming cells->Q
open Go.IntKind renaming i64->I
open Go renaming World->G,Value->QE
open Go.Ending renaming returned->QF
namespace Go.Proofs.YtamacmnikdejeaaGreatDoor.Vp
open RowKit Ca
structure FitD (x:ah):Prop where
 nm:x.name.size<=5000
 tx:x.text.size<=5000
 an:x.actN<=300
 asz:∀ j,j<x.actN->(x.act j).s.size<=5000
 ln:x.linksN<=300
 lsz:∀ j,j<x.linksN->(x.links j).name.size<=5000
theorem FitD.fits {x:ah}(h:FitD x):dJ x:=⟨by have:=h.an;omega,by have:=h.ln;omega⟩
theorem FitD.sized {x:ah}(h:FitD x):gT x:=by
 have h1:=h.nm;have h2:=h.tx;have h3:=h.an;have h5:=h.ln;refine⟨by unfold maxLen;omega,by unfold maxLen;omega,⟨by omega,fun j b=>?_⟩,⟨by omega,fun j b=>?_⟩⟩
 ·have:=h.asz j b
  unfold maxLen;omega
 ·have:=h.lsz j b
  unfold maxLen;omega
structure FitK (K:Nat)(x:ah):Prop where
 nm:x.name.size<=5000
 tx:x.text.size<=2000+K
 an:x.actN<=200+K
 asz:∀ j,j<x.actN->(x.act j).s.size<=5000
 ln:x.linksN<=200+K
 lsz:∀ j,j<x.linksN->(x.links j).name.size<=5000
theorem FitK.d {K:Nat}{x:ah}(h:FitK K x)(hK:K<=90):FitD x:=⟨h.nm,by have:=h.tx;omega,by have:=h.an;omega,h.asz,by have:=h.ln;omega,h.lsz⟩
theorem FitK.up {K L:Nat}{x:ah}(h:FitK K x)(hK:K<=L):FitK L x:=⟨h.nm,by have:=h.tx;omega,by have:=h.an;omega,h.asz,by have:=h.ln;omega,h.lsz⟩
theorem Ds {K:Nat}:FitK K eU:=⟨by decide,by show 0<=2000+K;omega,DN _,fun j b=>absurd b (by simp[eU]),DN _,fun j b=>absurd b (by simp[eU])⟩
theorem xB:FitD eU:=⟨by decide,by decide,by decide,fun j b=>absurd b (by simp[eU]),by decide,fun j b=>absurd b (by simp[eU])⟩
theorem nB {s:ByteArray}(h:au s=true):s.size<=60:=by unfold au at h;rw[j4,j5] at h;exact h.1.2
theorem tP (S:Spc)(nm:ByteArray):∀ x∈aO S (aX S nm).1,FitD x/\x.text.size<=2000/\x.actN<=200/\x.linksN<=200:=by
 obtain⟨z,_,m⟩:=pk S nm;intro x y;obtain⟨e,p,rfl⟩:=IW.1 y;have f:=z.ents e p;have A:=m (List.ne_nil_of_mem p);have h1:=nB f.nm;have h2:=f.tx;have u:=f.looks;have i:(bm S (aX S nm).1 e).linksN=e.looks.length:=rfl;have n:(bm S (aX S nm).1 e).actN=cI S e:=rfl;have l:cI S e=0∨valid (S.f1 e.tg).act (S.f1 e.tg).actN=true/\cI S e=(S.f1 e.tg).actN:=by
  rcases f.kind with ⟨b,_⟩ | ⟨b,_⟩ | ⟨b,_,t⟩
  ·exact .inl (by unfold cI;rw[cM (by omega)])
  ·exact .inl (by unfold cI;rw[cM (by omega)])
  ·refine .inr ⟨A.act _ (bJ t).1,?_⟩
   unfold cI;rw[gM b]
 have hn:cI S e<=200:=by
  rcases l with h | ⟨h,r⟩
  ·omega
  ·have:=(bN h).2.2
   omega
 have q:∀ j,j<cI S e->((S.f1 e.tg).act j).s.size<=5000:=by
  intro j g;rcases l with h | ⟨h,r⟩
  ·omega
  ·have b:=js (bN h).1 (show j<_ by omega)
   unfold cy at b;rw[j5] at b;have hm:bP ((S.f1 e.tg).act j).op<=2000:=by unfold bP;split<;>omega
   omega
 have o:∀ j,j<e.looks.length->(lkF (aX S nm).1 e.looks j).name.size<=5000:=by intro j g;rw[kf (gq g)];have:=nB (f.lname _ (gj g));show(e.looks[j]).name.size<=5000;omega
 exact⟨⟨by show e.name.size<=_;omega,by show e.text.size<=_;omega,by rw[n];omega,q,by rw[i];omega,o⟩,h2,by rw[n];exact hn,by rw[i];exact u⟩
structure HAc (base:Nat)(w:G)(a:Option Addr)(n c:Nat)(f:Nat->ah):Prop where
 sl:∀ V,Agr base w V->SlDeed V a n f
 cap:n<=c
 hn:n<=50000
 fit:∀ i,i<n->FitD (f i)
theorem HAc.agr {b:Nat}{w V:G}{a:Option Addr}{n c:Nat}{f:Nat->ah}(h:HAc b w a n c f)(g:Agr b w V):HAc b V a n c f:=⟨fun QK i=>h.sl QK (g.trans i),h.cap,h.hn,h.fit⟩
theorem HAc.mono {b g:Nat}{w:G}{a:Option Addr}{n c:Nat}{f:Nat->ah}(h:HAc b w a n c f)(hb:g<=b):HAc g w a n c f:=⟨fun QK i=>h.sl QK (i.mono hb),h.cap,h.hn,h.fit⟩
theorem DSub.agr {w V:G}{b:Nat}{r:DR}(h:DSub w b r)(f:Agr b w V):DSub V b r:=⟨eG h.act f,eG h.lnk f⟩
theorem DRow.agr {w V:G}{b:Nat}{v:QE}{R:List DR}(h:DRow w b v R)(f:Agr b w V):DRow V b v R:=⟨eG h.own f,fun r g=>(h.sub r g).agr f,h.up⟩
theorem jp {w:G}{f size n j c:Nat}{e:TypeId}{a:Option Addr}{i:List QE}(h:w.ownsRow f e size (Y a n c) j i):n<=c:=by
 rcases h.2 with ⟨b,h0⟩ | ⟨g,cap,cur,b,hb,hg,hc,_⟩
 ·simp only[IB] at b
  omega
 ·simp only[IB] at b
  omega
theorem En {w:G}{b c:Nat}{a:Option Addr}{R:List DR}(h:DRow w b (Y a R.length c) R)(j:∀ r∈R,FitD r.1)(hn:R.length<=50000):HAc b w a R.length c (dF (R.map (·.1))):=by refine⟨fun V l=>(h.agr l).deeds,jp h.own,hn,fun i hi=>?_⟩;obtain⟨r,g,f⟩:=cU hi;rw[fJ g];exact j r f
def DA (w:G)(R q:Nat)(e:Ending)(b:G):Prop:=∃ (a:Option Addr) (n c:Nat) (f:Nat->ah),e=QF (QG #[Y a n c])/\HAc w.heap.size b a n c f/\∃ q':Nat,q'<=q/\Rd b R q'/\Only R w b
def DAK (K:Nat)(w:G)(R q:Nat)(e:Ending)(b:G):Prop:=∃ (a:Option Addr) (n c:Nat) (f:Nat->ah),e=QF (QG #[Y a n c])/\HAc w.heap.size b a n c f/\(∃ q':Nat,q'<=q/\Rd b R q'/\Only R w b)/\n<=450+K/\∀ i,i<n->FitK K (f i)
theorem jH {f:Type}(g:f->List QE)(C:Nat)(b:∀ x,(g x).length=C){j:Nat}(i:j<C){x y:f}{u:QE}(l:g y=(g x).set j u):∀ (L:List f) (k:Nat),L[k]?=T x->(L.flatMap g).set (k*C+j) u=(L.set k y).flatMap g
 | [],k,h=>by simp at h
 | z :: L,0,h=>by
  obtain rfl:z=x:=by simpa using h
  simp only[IY,List.set_cons_zero,NH,D0];rw[MW _ _ (by rw[b];exact i),l]
 | z :: L,k+1,h=>by
  have m:L[k]?=T x:=by simpa using h
  have e:(k+1)*C+j - C=k*C+j:=by rw[Nat.add_mul];omega
  simp only[IY,LV];rw[LB _ _ (by rw[b,Nat.add_mul];omega),b,e,jH g C b i l L k m]
structure DRw (w:G)(base:Nat)(v:QE)(R:List DR):Prop where
 own:w.ownsRow base 46 6 v R.length (R.flatMap ddV)
 sub:∀ r∈R,DSub w base r
theorem DRow.rw {w:G}{b:Nat}{v:QE}{R:List DR}(h:DRow w b v R):DRw w b v R:=⟨h.own,h.sub⟩
theorem DRw.agr {w V:G}{b:Nat}{v:QE}{R:List DR}(h:DRw w b v R)(f:Agr b w V):DRw V b v R:=⟨eG h.own f,fun r g=>(h.sub r g).agr f⟩
theorem DRw.mono {w:G}{b base':Nat}{v:QE}{R:List DR}(h:DRw w b v R)(hb:base'<=b):DRw w base' v R:=⟨aE h.own hb,fun r f=>(h.sub r f).mono hb⟩
theorem DRw.below {w g:G}{b B:Nat}{v:QE}{R:List DR}(h:DRw w b v R)(hb:Below B w g)(f:w.heap.size<=B):DRw g b v R:=⟨own_below h.own hb f,fun r i=>(h.sub r i).below hb f⟩
theorem DRw.deeds {w:G}{b c:Nat}{a:Option Addr}{R:List DR}(h:DRw w b (Y a R.length c) R):SlDeed w a R.length (dF (R.map (·.1))):=by
 by_cases hz:R.length=0
 ·exact .inl hz
 ·obtain⟨g,c',e⟩:=dr h.own (by omega)
  cases e
  refine .inr ⟨g,0,rfl,(cX h.own).2,fun i hi=>?_⟩;obtain⟨r,l,f⟩:=cU hi;rw[fJ l];have c:∀ j,j<6->∀ u,(ddV r)[j]?=T u->w.cell? (N g (0+i*6+j) Z)=T u:=fun j o u x=>by rw[show 0+i*6+j=i*6+j by omega];exact(ed h.own l j o x).1
  obtain⟨n,c4,p,m⟩:=(h.sub r f).ins;obtain⟨t,c5,q,s⟩:=(h.sub r f).links;exact⟨c 0 (by omega) _ rfl,c 1 (by omega) _ rfl,c 2 (by omega) _ rfl,c 3 (by omega) _ rfl,⟨n,c4,by rw[<-p];exact c 4 (by omega) _ rfl,m⟩,⟨t,c5,by rw[<-q];exact c 5 (by omega) _ rfl,s⟩⟩
theorem yW {w:G}{b n c:Nat}{a:Option Addr}{R:List DR}(h:DRw w b (Y a n c) R)(e:n=R.length)(j:∀ r∈R,FitD r.1)(hn:R.length<=50000):HAc b w a n c (dF (R.map (·.1))):=by subst e;refine⟨fun V l=>(h.agr l).deeds,jp h.own,hn,fun i hi=>?_⟩;obtain⟨r,g,f⟩:=cU hi;rw[fJ g];exact j r f
theorem DSub.put {w:G}{b g j:Nat}{r:DR}{i:Array QE}{fz:Nat × Nat}(h:DSub w b r)(f:w.heap[g]?=T (Q i 46 fz))(u:QE):DSub (w.setCell (N g j Z) u) b r :=
 ⟨dy h.act f (by decide) u,dy h.lnk f (by decide) u⟩
theorem DRw.fld {w:G}{b g n c k j:Nat}{R:List DR}{r r':DR}{u:QE}(h:DRw w b (Y (T (N g 0 Z)) n c) R)(e:n=R.length)(q:R[k]?=T r)(o:j<6)(p:ddV r'=(ddV r).set j u)(m:DSub w b r'):DRw (w.setCell (N g (k*6+j) Z) u) b (Y (T (N g 0 Z)) n c) (R.set k r'):=by
 subst e;obtain⟨cs,z,l⟩:=fh h.own g rfl;have i:=fV (j:=k*6+j) h.own u;rw[jH ddV 6 (fun _=>rfl) o p R k q] at i;refine⟨by rw[IC];exact i,fun s f=>?_⟩;rcases IZ f with h2 | rfl
 ·exact(h.sub s h2).put l u
 ·exact m.put l u
theorem mV {P:ah->Prop}{R:List DR}{k:Nat}{r':DR}(h:∀ r∈R,P r.1)(f:P r'.1):∀ r∈R.set k r',P r.1:=fun r b=>by
 rcases IZ b with h2 | rfl
 ·exact h r h2
 ·exact f
variable {K:Nat}
structure SpS (K:Nat)(w:G)(R X:Nat)(W:G)(q:Nat)(a:Option Addr)(c:Nat)(D:List DR):Prop where
 rd:Rd W R q
 o:Only R w W
 rs:W.heap[w.heap.size+1]?=T (Q #[Y Z 0 0] 25 (0,0))
 bx:W.heap[X]?=T (Q #[Y a D.length c] 25 (0,0))
 row:DRw W (w.heap.size+2) (Y a D.length c) D
 fit:∀ r∈D,FitK K r.1
 lo:R<w.heap.size
 hX:w.heap.size+2<=X
 num:D.length<=450+K
section
variable {w W W':G}{R X q q' c g k j:Nat}{a:Option Addr}{D:List DR}{r r':DR}{u:QE}
theorem SpS.lt (h:SpS K w R X W q a c D):X<W.heap.size:=ai h.bx
theorem SpS.only (h:SpS K w R X W q a c D)(b:Only R W W')(hR:Rd W' R q'):SpS K w R X W' q' a c D:=by have hl:=h.lo;have hx:=h.hX;exact⟨hR,h.o.trans b,(b.block _ (ai h.rs) (by omega)).trans h.rs,(b.block _ h.lt (by omega)).trans h.bx,h.row.agr (b.agr (by omega)),h.fit,h.lo,h.hX,h.num⟩
theorem SpS.below (h:SpS K w R X W q a c D)(b:Below W.heap.size W W'):SpS K w R X W' q a c D:=h.only (Only.of_below b) (h.rd.below b ly)
theorem SpS.box (h:SpS K w R X W q a c D):W.cell? (N X 0 Z)=T (Y a D.length c)/\W.frozen? (N X 0 Z)=false:=by
 have hb:=h.bx;constructor
 ·simp[World.cell?,hb]
 ·simp[World.frozen?,hb]
theorem SpS.at_ (h:SpS K w R X W q (T (N g 0 Z)) c D)(f:D[k]?=T r)(i:j<6)(b:(ddV r)[j]?=T u):W.cell? (N g (k*6+j) Z)=T u/\W.frozen? (N g (k*6+j) Z)=false:=ed h.row.own f j i b
theorem SpS.gb (h:SpS K w R X W q (T (N g 0 Z)) c D):w.heap.size+2<=g/\g<W.heap.size/\g≠X/\∃ b z,W.heap[g]?=T (Q b 46 z):=by obtain⟨b,z,f⟩:=fh h.row.own g rfl;obtain⟨h1,h2⟩:=cX h.row.own;refine⟨h1,h2,fun e=>?_,b,z,f⟩;rw[e,h.bx] at f;simp at f
theorem SpS.put (h:SpS K w R X W q (T (N g 0 Z)) c D){b:List DR}(hn:b.length=D.length)(f:DRw (W.setCell (N g j Z) u) (w.heap.size+2) (Y (T (N g 0 Z)) D.length c) b)(i:∀ r∈b,FitK K r.1):SpS K w R X (W.setCell (N g j Z) u) q (T (N g 0 Z)) c b:=by
 obtain⟨h1,h2,l,cs,z,hg⟩:=h.gb;have hl:=h.lo;have B:=(a8 (w.heap.size+2) W).setCell (p:=(N g j Z)) h1 u;refine⟨h.rd.low B (by omega),h.o.then (B.mono (by omega)),(B.block _ (by omega)).trans h.rs,?_,?_,i,h.lo,h.hX,by rw[hn];exact h.num⟩
 ·rw[hn]
  exact(qh _ _ _ _ (fun e=>l e.symm)).trans h.bx
 ·rw[hn]
  exact f
theorem SpS.fld (h:SpS K w R X W q (T (N g 0 Z)) c D)(b:D[k]?=T r)(f:j<6)(m:ddV r'=(ddV r).set j u)(i:DSub W (w.heap.size+2) r')(l:FitK K r'.1):SpS K w R X (W.setCell (N g (k*6+j) Z) u) q (T (N g 0 Z)) c (D.set k r') :=
 h.put IC (h.row.fld rfl b f m i) (mV h.fit l)
end
theorem SpS.fin {w W:G}{R X q c QM:Nat}{a:Option Addr}{D:List DR}(h:SpS K w R X W q a c D)(g:K<=90)(l:q<=QM):DAK K w R QM (QF (QG #[Y a D.length c])) (W.setCell (N (w.heap.size+1) 0 Z) (Y a D.length c)):=by
 have hl:=h.lo;have B:=(a8 w.heap.size W).setCell (p:=(N (w.heap.size+1) 0 Z)) (CV _) (Y a D.length c);have j:Agr (w.heap.size+2) W (W.setCell (N (w.heap.size+1) 0 Z) (Y a D.length c)):=⟨by simp,fun k h1 _=>qh _ _ _ _ (by show k≠w.heap.size+1;omega)⟩
 exact⟨a,D.length,c,_,rfl,(yW (h.row.agr j) rfl (fun r b=>(h.fit r b).d g) (by have:=h.num;omega)).mono (by omega),⟨q,l,h.rd.low B h.lo,h.o.then B⟩,h.num,fun i hi=>by
  obtain⟨r,b,f⟩:=cU hi;rw[fJ b]
  exact h.fit r f⟩
def FitI (x:ah):Prop:=FitD x/\x.text.size<=2000/\x.actN<=200/\x.linksN<=200
theorem FitI.k {x:ah}(h:FitI x):FitK K x:=⟨h.1.nm,by have:=h.2.1;omega,by have:=h.2.2.1;omega,h.1.asz,by have:=h.2.2.2;omega,h.1.lsz⟩
theorem FitK.kind {x:ah}(h:FitK K x)(z:Int):FitK K { x with kind:=z }:=⟨h.nm,h.tx,h.an,h.asz,h.ln,h.lsz⟩
theorem FitK.code {x:ah}(h:FitK K x)(z:Int):FitK K { x with code:=z }:=⟨h.nm,h.tx,h.an,h.asz,h.ln,h.lsz⟩
theorem FitK.text {x:ah}(h:FitK K x){t:ByteArray}(b:t.size<=2000+K):FitK K { x with text:=t }:=⟨h.nm,b,h.an,h.asz,h.ln,h.lsz⟩
theorem FitK.name {x:ah}(h:FitK K x){t:ByteArray}(b:t.size<=5000):FitK K { x with name:=t }:=⟨b,h.tx,h.an,h.asz,h.ln,h.lsz⟩
theorem DSub.same {w:G}{b:Nat}{r:DR}(h:DSub w b r)(y:ah)(f:y.actN=r.1.actN)(j:y.act=r.1.act)(i:y.linksN=r.1.linksN)(g:y.links=r.1.links):DSub w b (y,r.2):=by
 refine⟨?_,?_⟩
 ·show w.ownsRow b 146 3 r.2.1 y.actN (ct y.act y.actN)
  rw[f,j];exact h.act
 ·show w.ownsRow b 129 4 r.2.2 y.linksN (bV y.links y.linksN)
  rw[i,g];exact h.lnk
def iA (W:G)(g k:Nat)(r:DR):G:=(((((W.setCell (N g (k*6) Z) (U r.1.name)).setCell (N g (k*6+1) Z) (J I r.1.kind)).setCell (N g (k*6+2) Z) (J I r.1.code)).setCell (N g (k*6+3) Z) (U r.1.text)).setCell (N g (k*6+4) Z) r.2.1).setCell (N g (k*6+5) Z) r.2.2
theorem iT {W:G}{b g n c k j:Nat}{D:List DR}{r r':DR}{u:QE}(h:W.ownsRow b 46 6 (Y (T (N g 0 Z)) n c) n ((D.set k r).flatMap ddV))(i:k<D.length)(l:j<6)(m:ddV r'=(ddV r).set j u):(W.setCell (N g (k*6+j) Z) u).ownsRow b 46 6 (Y (T (N g 0 Z)) n c) n ((D.set k r').flatMap ddV):=by have f:=fV (j:=k*6+j) h u;rw[jH ddV 6 (fun _=>rfl) l m (D.set k r) k (by rw[I5 i]),LL] at f;exact f
theorem tQ {W:G}{b g n c k:Nat}{D:List DR}{r:DR}(r':DR)(h:W.ownsRow b 46 6 (Y (T (N g 0 Z)) n c) n (D.flatMap ddV))(l:D[k]?=T r):(iA W g k r').ownsRow b 46 6 (Y (T (N g 0 Z)) n c) n ((D.set k r').flatMap ddV):=by
 obtain⟨f,q⟩:=j2.1 l;have m:W.ownsRow b 46 6 (Y (T (N g 0 Z)) n c) n ((D.set k r).flatMap ddV):=by rw[<-q,List.set_getElem_self];exact h
 have h1:=iT (j:=0) (u:=U r'.1.name) (r':=({ r.1 with name:=r'.1.name },r.2)) m f (by omega) rfl;have h2:=iT (j:=1) (u:=J I r'.1.kind) (r':=({ r.1 with name:=r'.1.name,kind:=r'.1.kind },r.2)) h1 f (by omega) rfl;have o:=iT (j:=2) (u:=J I r'.1.code) (r':=({ r.1 with name:=r'.1.name,kind:=r'.1.kind,code:=r'.1.code },r.2)) h2 f (by omega) rfl;have i:=iT (j:=3) (u:=U r'.1.text) (r':=({ r.1 with name:=r'.1.name,kind:=r'.1.kind,code:=r'.1.code,text:=r'.1.text },r.2)) o f (by omega) rfl;have p:=iT (j:=4) (u:=r'.2.1) (r':=({ r.1 with name:=r'.1.name,kind:=r'.1.kind,code:=r'.1.code,text:=r'.1.text },r'.2.1,r.2.2)) i f (by omega) rfl;exact iT (j:=5) (u:=r'.2.2) (r':=r') p f (by omega) rfl
theorem eS (W:G)(g k m:Nat)(r:DR)(h:m≠g):(iA W g k r).heap[m]?=W.heap[m]?:=by unfold iA;repeat rw[qh _ _ _ _ (by show m≠g;exact h)]
theorem px (W:G)(g k B:Nat)(r:DR)(h:B<=g):Below B W (iA W g k r) :=
 ((((((a8 B W).setCell (p:=(N g (k*6) Z)) h _).setCell (p:=(N g (k*6+1) Z)) h _).setCell (p:=(N g (k*6+2) Z)) h _).setCell (p:=(N g (k*6+3) Z)) h _).setCell (p:=(N g (k*6+4) Z)) h _).setCell (p:=(N g (k*6+5) Z)) h _
theorem DSub.far {W W':G}{b:Nat}{r:DR}(h:DSub W b r)(g:∀ m,r.2.1.ownBlock=T m->OfTy W m 146->W'.heap[m]?=W.heap[m]?)(f:∀ m,r.2.2.ownBlock=T m->OfTy W m 129->W'.heap[m]?=W.heap[m]?):DSub W' b r:=⟨dL h.act g,dL h.lnk f⟩
theorem SpS.deed {w W W':G}{R X q q' c g k o cl:Nat}{D:List DR}{r:DR}(h:SpS K w R X W q (T (N g 0 Z)) c D)(QR:D.Pairwise fun a b=>Apt a.2.1 b.2.1/\Apt a.2.2 b.2.2)(QM:D[k]?=T r)(P:r∈D)(M:r.2.2=Y (T (N o 0 Z)) r.1.linksN cl)
  (hR:Rd W' R q') (hO:Only R w W') (keep:∀ i,i<W.heap.size->i≠R->i≠o->W'.heap[i]?=W.heap[i]?) (r':DR) (QH:DSub W' (w.heap.size+2) r') (QJ:FitK K r'.1):SpS K w R X (iA W' g k r') q' (T (N g 0 Z)) c (D.set k r'):=by
 obtain⟨h1,h2,h3,cs,z,QN⟩:=h.gb;have hlo:=h.lo;have hX:=h.hX;obtain⟨cl2,zl,C⟩:=fh (h.row.sub r P).lnk o (by rw[M];rfl);have hlb:w.heap.size+2<=o:=((h.row.sub r P).lnk.lt o (by rw[M];rfl)).1;have QK:g≠o:=fun e=>by rw[e,C] at QN;simp at QN
 have QL:X≠o:=fun e=>by have:=h.bx;rw[e,C] at this;simp at this
 have S:=keep g h2 (by omega) QK;have B:=px W' g k (w.heap.size+2) r' h1;have O:W'.ownsRow (w.heap.size+2) 46 6 (Y (T (N g 0 Z)) D.length c) D.length (D.flatMap ddV):=dL h.row.own fun m f _=>by
  obtain rfl:g=m:=by simpa[Value.ownBlock] using f
  exact S
 have hn:(D.set k r').length=D.length:=IC;have V:∀ m e,OfTy W m e->e≠129->w.heap.size+2<=m->W'.heap[m]?=W.heap[m]?:=fun m e l he hb=>by obtain⟨c0,z0,j⟩:=l;exact keep m (ai j) (by omega) (fun p=>by rw[p,C] at j;simp at j;exact he j.2.1.symm)
 have y:∀ s,DSub W' (w.heap.size+2) s->DSub (iA W' g k r') (w.heap.size+2) s:=fun s x=>by
  have QP:W'.heap[g]?=T (Q cs 46 z):=S.trans QN;refine x.far (fun m _ l=>eS _ _ _ _ _ fun e=>?_) (fun m _ l=>eS _ _ _ _ _ fun e=>?_)
  ·obtain⟨c0,z0,j⟩:=l
   rw[e,QP] at j;simp at j
  ·obtain⟨c0,z0,j⟩:=l
   rw[e,QP] at j;simp at j
 refine⟨hR.low B (by omega),hO.then (B.mono (by omega)),?_,?_,⟨?_,fun s x=>?_⟩,mV h.fit QJ,h.lo,h.hX,by rw[hn];exact h.num⟩
 ·exact(B.block _ (by omega)).trans ((keep _ (ai h.rs) (by omega) (by omega)).trans h.rs)
 ·rw[hn]
  exact(eS _ _ _ _ _ (fun e=>h3 e.symm)).trans ((keep X h.lt (by omega) QL).trans h.bx)
 ·rw[hn]
  exact tQ r' O QM
 ·obtain⟨i,hi⟩:=JH x
  by_cases e:i=k
  ·subst e
   rw[I5 (by rw[<-hn];exact(j2.1 hi).1)] at hi;obtain rfl:=DC hi;exact y _ QH
  ·rw[JO (fun p=>e p.symm)] at hi
   have t:=IE hi;refine y s ((h.row.sub s t).far (fun m f l=>V m _ l (by decide) ((h.row.sub s t).act.lt m f).1) (fun m f l=>?_));obtain⟨c0,z0,j⟩:=l;have hb:=((h.row.sub s t).lnk.lt m f).1;refine keep m (ai j) (by omega) (fun p=>?_);obtain⟨QO,L⟩:=j2.1 hi;obtain⟨E,H⟩:=j2.1 QM;have u:r.2.2.ownBlock=T o:=by rw[M];rfl
   rcases Nat.lt_or_gt_of_ne e with A | A
   ·have:=(ID.1 QR i k QO E A).2
    rw[L,H] at this;rcases this with n | n
    ·rw[f] at n;cases n
    ·exact n (by rw[f,u,p])
   ·have:=(ID.1 QR k i E QO A).2
    rw[L,H] at this;rcases this with n | n
    ·rw[u] at n;cases n
    ·exact n (by rw[f,u,p])
theorem SpS.actK {w W W':G}{R X q c g f s n o:Nat}{D:List DR}{r:DR}(h:SpS K w R X W q (T (N g 0 Z)) c D)(b:r∈D)(t:r.2.1=Y (T (N n 0 Z)) r.1.actN o)(p:r.2.2=Y (T (N f 0 Z)) r.1.linksN s)(keep:∀ i,i<W.heap.size->i≠R->i≠f->W'.heap[i]?=W.heap[i]?):W'.ownsRow (w.heap.size+2) 146 3 (Y (T (N n 0 Z)) r.1.actN o) r.1.actN (ct r.1.act r.1.actN):=by have hlo:=h.lo;obtain⟨cl2,zl,l⟩:=fh (h.row.sub r b).lnk f (by rw[p];rfl);rw[<-t];refine dL (h.row.sub r b).act fun m h1 h2=>?_;obtain⟨c0,z0,j⟩:=h2;have hb:=((h.row.sub r b).act.lt m h1).1;exact keep m (ai j) (by omega) (fun e=>by rw[e,l] at j;simp at j)
theorem SpS.kept {w W W':G}{R X q c g f o:Nat}{D:List DR}{r:DR}(h:SpS K w R X W q (T (N g 0 Z)) c D)(m:r∈D)(n:r.2.2=Y (T (N f 0 Z)) r.1.linksN o)(keep:∀ i,i<W.heap.size->i≠R->i≠f->W'.heap[i]?=W.heap[i]?):W'.heap[X]?=W.heap[X]?/\W'.heap[g]?=W.heap[g]?/\g<W'.heap.size:=by obtain⟨h1,h2,h3,cs,z,j⟩:=h.gb;have hlo:=h.lo;have hX:=h.hX;obtain⟨cl2,zl,b⟩:=fh (h.row.sub r m).lnk f (by rw[n];rfl);have l:=keep g h2 (by omega) (fun e=>by rw[e,b] at j;simp at j);exact⟨keep X h.lt (by omega) (fun e=>by have:=h.bx;rw[e,b] at this;simp at this),l,ai (l.trans j)⟩
theorem SpS.six {w W:G}{R X q c g k:Nat}{D:List DR}{r:DR}(h:SpS K w R X W q (T (N g 0 Z)) c D)(u:D[k]?=T r)(r':DR)(n:DSub W (w.heap.size+2) r')(p:FitK K r'.1):SpS K w R X (iA W g k r') q (T (N g 0 Z)) c (D.set k r'):=by
 obtain⟨h1,h2,t,cs,z,l⟩:=h.gb;have hlo:=h.lo;have B:=px W g k (w.heap.size+2) r' h1;have hn:(D.set k r').length=D.length:=IC;have b:∀ s,DSub W (w.heap.size+2) s->DSub (iA W g k r') (w.heap.size+2) s:=fun s i=>by
  refine i.far (fun m _ j=>eS _ _ _ _ _ fun e=>?_) (fun m _ j=>eS _ _ _ _ _ fun e=>?_)
  ·obtain⟨c0,z0,f⟩:=j
   rw[e,l] at f;simp at f
  ·obtain⟨c0,z0,f⟩:=j
   rw[e,l] at f;simp at f
 refine⟨h.rd.low B (by omega),h.o.then (B.mono (by omega)),(B.block _ (by omega)).trans h.rs,?_,⟨?_,fun s i=>?_⟩,mV h.fit p,h.lo,h.hX,by rw[hn];exact h.num⟩
 ·rw[hn]
  exact(eS _ _ _ _ _ (fun e=>t e.symm)).trans h.bx
 ·rw[hn]
  exact tQ r' h.row.own u
 ·rcases IZ i with x | rfl
  ·exact b s (h.row.sub s x)
  ·exact b _ n
theorem DSub.form {w:G}{b i j f g:Nat}{r:DR}(h:DSub w b r)(m:r.2.1=Y (T (N i 0 Z)) r.1.actN j)(l:r.2.2=Y (T (N f 0 Z)) r.1.linksN g):DSub w b (r.1,Y (T (N i 0 Z)) r.1.actN j,Y (T (N f 0 Z)) r.1.linksN g):=by rw[<-m,<-l];exact h
theorem DSub.six {W:G}{f g k:Nat}{s r':DR}{l:Array QE}{z:Nat × Nat}(h:DSub W f s)(j:W.heap[g]?=T (Q l 46 z)):DSub (iA W g k r') f s:=by
 refine h.far (fun m _ i=>eS _ _ _ _ _ fun e=>?_) (fun m _ i=>eS _ _ _ _ _ fun e=>?_)
 ·obtain⟨c0,z0,b⟩:=i
  rw[e,j] at b;simp at b
 ·obtain⟨c0,z0,b⟩:=i
  rw[e,j] at b;simp at b
variable {K:Nat}
def noR:DR:=(eU,Y Z 0 0,Y Z 0 0)
theorem Be (n i:Nat)(h:i<n*6):(df n)[i]?=(ddV noR)[i % 6]?:=by
 have e:(df n)[i]?=T ((Value.agg #[U ⟨#[]⟩,J I 0,J I 0,U ⟨#[]⟩,Y Z 0 0,Y Z 0 0]).cells[i % 6]!):=by unfold df madeCells;simp[h];rfl
 rw[e];have b:i % 6<6:=LH _ (by omega);generalize i % 6=j at b;rcases(show j=0∨j=1∨j=2∨j=3∨j=4∨j=5 by omega) with rfl | rfl | rfl | rfl | rfl | rfl<;>rfl
theorem xD (n:Nat):(df n).toList=(List.replicate n noR).flatMap ddV:=by
 refine LG fun i=>?_;by_cases h:i<n*6
 ·have e:i=i / 6*6+i % 6:=by omega
  rw[IJ,Be n i h];conv=>rhs;rw[e]
  rw[cK ddV 6 (fun _=>rfl) _ (i / 6) (i % 6) (by omega) noR (by rw[List.getElem?_replicate,gM (by omega)])]
 ·have hz:(df n).size=n*6:=size_madeCells _ _
  rw[I6 (by rw[JI,hz];omega),I6 (by rw[eP ddV 6 (fun _=>rfl),KE];omega)]
theorem yX (w:G)(b n:Nat)(hb:b<=w.heap.size)(hn:n<=1000):DRw (w.alloc (Q (df n) 46)) b (Y (T (N w.heap.size 0 Z)) n n) (List.replicate n noR):=by
 have hz:(df n).size=n*6:=size_madeCells _ _;have g:((List.replicate n noR).flatMap ddV).length=n*6:=by rw[eP ddV 6 (fun _=>rfl),KE]
 refine⟨?_,fun r f=>?_⟩
 ·rw[KE]
  refine⟨g,.inr ⟨w.heap.size,n,df n,rfl,hb,eT w _,j6 _,by unfold maxLen;omega,hz,?_⟩⟩;rw[<-xD,I8 (by rw[JI,hz];omega)]
 ·rw[List.eq_of_mem_replicate f]
  exact⟨BG _ _ _ _,BG _ _ _ _⟩
theorem yY {w W:G}{R X q c m QM:Nat}{a:Option Addr}{D:List DR}(h:SpS K w R X W q a c D)(hm:m<=450)(f:q<=QM):DAK K w R QM (QF (QG #[Y (T (N W.heap.size 0 Z)) m m])) ((W.setCell (N (w.heap.size+1) 0 Z) (Y (T (N W.heap.size 0 Z)) m m)).alloc (Q (df m) 46)):=by
 have hl:=h.lo;have hx:=h.lt;have hX:=h.hX;have hz:(W.setCell (N (w.heap.size+1) 0 Z) (Y (T (N W.heap.size 0 Z)) m m)).heap.size=W.heap.size:=by simp
 have B:=((a8 w.heap.size W).setCell (p:=(N (w.heap.size+1) 0 Z)) (CV _) (Y (T (N W.heap.size 0 Z)) m m)).alloc (by rw[hz];omega) (Q (df m) 46);have b:=yX (W.setCell (N (w.heap.size+1) 0 Z) (Y (T (N W.heap.size 0 Z)) m m)) w.heap.size m (by rw[hz];omega) (by omega);rw[hz] at b
 exact⟨T (N W.heap.size 0 Z),m,m,_,rfl,yW b (by rw[KE]) (fun r b=>by rw[List.eq_of_mem_replicate b];exact xB) (by rw[KE];omega),⟨q,f,h.rd.low B h.lo,h.o.then B⟩,by omega,fun i hi=>by
  rw[fJ (r:=noR) (by rw[List.getElem?_replicate,gM hi])]
  exact Ds⟩
theorem SpS.box_ {w W W':G}{R X q c j:Nat}{a g:Option Addr}{D b:List DR}(h:SpS K w R X W q a c D)(z:Below W.heap.size W W')(n:W'.ownsRow (w.heap.size+2) 46 6 (Y g b.length j) b.length (b.flatMap ddV))(t:∀ r∈b,DSub W' (w.heap.size+2) r)(u:∀ r∈b,FitK K r.1)(hn:b.length<=450+K):SpS K w R X (W'.setCell (N X 0 Z) (Y g b.length j)) q g j b:=by
 have i:=h.below z;have hX:=h.hX;have hlo:=h.lo;have B:=(a8 (w.heap.size+2) W').setCell (p:=(N X 0 Z)) hX (Y g b.length j);have far:∀ m,m≠X->(W'.setCell (N X 0 Z) (Y g b.length j)).heap[m]?=W'.heap[m]?:=fun m s=>qh _ _ _ _ s;have l:∀ m e,OfTy W' m e->e≠25->m≠X:=fun m e f A C=>by obtain⟨c0,z0,y⟩:=f;have:=i.bx;rw[<-C,y] at this;simp at this;exact A this.2.1
 refine⟨i.rd.low B (by omega),i.o.then (B.mono (by omega)),(B.block _ (by omega)).trans i.rs,?_,⟨dL n fun m _ f=>far m (l m _ f (by decide)),fun r x=>(t r x).far (fun m _ f=>far m (l m _ f (by decide))) (fun m _ f=>far m (l m _ f (by decide)))⟩,u,h.lo,h.hX,hn⟩;exact bI i.bx _
theorem xE {base g c k:Nat}{D:List DR}(hk:k<D.length)(hc:D.length<=c):∃ f:Addr,(if c=k+1 then T ((N g 0 Z):Addr) else T ⟨g,(k+1)*6,Z⟩)=T f /\
  ∀ V:G,V.ownsRow base 46 6 (Y (T (N g 0 Z)) D.length c) D.length (D.flatMap ddV)->∀ j u,((D.drop (k+1)).flatMap ddV)[j]?=T u->V.cell? (f.add j)=T u:=by
 by_cases h:c=k+1
 ·refine⟨(N g 0 Z),by rw[gM h],fun V i j u b=>?_⟩
  rw[List.drop_eq_nil_of_le (by omega)] at b;simp at b
 ·refine⟨⟨g,(k+1)*6,Z⟩,by rw[cM h],fun V i j u b=>?_⟩
  have h1:=i.cells (g:=g) rfl ((k+1)*6+j) u (by
   have e:D.flatMap ddV=(D.take (k+1)).flatMap ddV++(D.drop (k+1)).flatMap ddV:=by rw[<-EQ,J9]
   have l:((D.take (k+1)).flatMap ddV).length=(k+1)*6:=by rw[eP ddV 6 (fun _=>rfl),IU,JT (by omega)]
   rw[e,BS (by omega),l,Nat.add_sub_cancel_left]
   exact b)
  rw[gX] at h1 ⊢;rwa[D0] at h1
theorem yZ {V:G}{b g c:Nat}{D:List DR}(k:Nat)(h:V.ownsRow b 46 6 (Y (T (N g 0 Z)) D.length c) D.length (D.flatMap ddV)):∀ j u,((D.take k).flatMap ddV)[j]?=T u->V.cell? (((N g 0 Z):Addr).add j)=T u:=by
 intro j u f;refine h.cells (g:=g) rfl j u ?_;have e:D.flatMap ddV=(D.take k).flatMap ddV++(D.drop k).flatMap ddV:=by rw[<-EQ,J9]
 rw[e,IG (j2.1 f).1];exact f
theorem qk (D:List DR)(h:∀ r∈D,Som r):∀ u∈D.flatMap ddV,u.oneCell'=true:=by intro u l;obtain⟨r,f,b⟩:=JV.1 l;obtain⟨⟨g,c,i⟩,g',c',j⟩:=h r f;simp only[ddV,i,j,p6,nj,JQ] at b;rcases b with rfl | rfl | rfl | rfl | rfl | rfl<;>rfl
end Go.Proofs.YtamacmnikdejeaaGreatDoor.Vp
