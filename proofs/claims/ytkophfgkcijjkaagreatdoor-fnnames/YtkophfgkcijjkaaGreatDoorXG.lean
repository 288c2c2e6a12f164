import Derived.Test.YtkophfgkcijjkaaGreatDoorYU
import Derived.Test.YtkophfgkcijjkaaGreatDoorZW
import Derived.Test.YtkophfgkcijjkaaGreatDoorYR
namespace Go.Proofs.YtkophfgkcijjkaaGreatDoor.Vp
open RowKit Ca
structure FitD (x:ar):Prop where
 nm:x.name.size<=5000
 tx:x.text.size<=5000
 an:x.actN<=300
 asz:∀ j,j<x.actN->(x.act j).s.size<=5000
 ln:x.linksN<=300
 lsz:∀ j,j<x.linksN->(x.links j).name.size<=5000
theorem FitD.fits {x:ar}(h:FitD x):cK x:=⟨by have:=h.an;omega,by have:=h.ln;omega⟩
theorem FitD.sized {x:ar}(h:FitD x):dD x:=by
 have h1:=h.nm;have h2:=h.tx;have h3:=h.an;have h5:=h.ln;refine⟨by unfold maxLen;omega,by unfold maxLen;omega,⟨by omega,fun j b=>?_⟩,⟨by omega,fun j b=>?_⟩⟩
 ·have:=h.asz j b
  unfold maxLen;omega
 ·have:=h.lsz j b
  unfold maxLen;omega
theorem tH:FitD fw:=⟨by decide,by decide,by decide,fun j b=>absurd b (by simp[fw]),by decide,fun j b=>absurd b (by simp[fw])⟩
theorem kO {s:ByteArray}(h:aw s=true):s.size<=60:=by unfold aw at h;rw[Bool.and_eq_true,decide_eq_true_eq] at h;exact h.1.2
theorem xd (S:Spc)(nm:ByteArray):∀ x∈fg S (bN S nm).1,FitD x/\x.text.size<=2000/\x.actN<=200/\x.linksN<=200:=by
 obtain⟨r,_,l⟩:=mj S nm;intro x p;obtain⟨e,i,rfl⟩:=List.mem_map.1 p;have c:=r.ents e i;have o:=l (List.ne_nil_of_mem i);have h1:=kO c.nm;have y:=c.tx;have n:=c.looks;have m:(dR S (bN S nm).1 e).linksN=e.looks.length:=rfl;have g:(dR S (bN S nm).1 e).actN=cO S e:=rfl;have k:cO S e=0∨valid (S.f1 e.tg).act (S.f1 e.tg).actN=true/\cO S e=(S.f1 e.tg).actN:=by
  rcases c.kind with ⟨b,_⟩ | ⟨b,_⟩ | ⟨b,_,u⟩
  ·exact .inl (by unfold cO;rw[if_neg (by omega)])
  ·exact .inl (by unfold cO;rw[if_neg (by omega)])
  ·refine .inr ⟨o.act _ (b9 u).1,?_⟩
   unfold cO;rw[if_pos b]
 have hn:cO S e<=200:=by
  rcases k with h | ⟨h,q⟩
  ·omega
  ·have:=(cH h).2.2
   omega
 have t:∀ j,j<cO S e->((S.f1 e.tg).act j).s.size<=5000:=by
  intro j d;rcases k with h | ⟨h,q⟩
  ·omega
  ·have b:=j8 (cH h).1 (show j<_ by omega)
   unfold cC at b;rw[decide_eq_true_eq] at b;have hm:bF ((S.f1 e.tg).act j).op<=2000:=by unfold bF;split<;>omega
   omega
 have f:∀ j,j<e.looks.length->(lkF (bN S nm).1 e.looks j).name.size<=5000:=by intro j d;rw[uD (gq d)];have:=kO (c.lname _ (gz d));show(e.looks[j]).name.size<=5000;omega
 exact⟨⟨by show e.name.size<=_;omega,by show e.text.size<=_;omega,by rw[g];omega,t,by rw[m];omega,f⟩,y,by rw[g];exact hn,by rw[m];exact n⟩
structure HAc (base:Nat)(w:World)(a:Option Addr)(n c:Nat)(f:Nat->ar):Prop where
 sl:∀ V,Agr base w V->SlDeed V a n f
 cap:n<=c
 hn:n<=50000
 fit:∀ i,i<n->FitD (f i)
theorem HAc.agr {b:Nat}{w V:World}{a:Option Addr}{n c:Nat}{f:Nat->ar}(h:HAc b w a n c f)(d:Agr b w V):HAc b V a n c f:=⟨fun U g=>h.sl U (d.trans g),h.cap,h.hn,h.fit⟩
theorem HAc.mono {b d:Nat}{w:World}{a:Option Addr}{n c:Nat}{f:Nat->ar}(h:HAc b w a n c f)(hb:d<=b):HAc d w a n c f:=⟨fun U g=>h.sl U (g.mono hb),h.cap,h.hn,h.fit⟩
theorem HAc.here {b:Nat}{w:World}{a:Option Addr}{n c:Nat}{f:Nat->ar}(h:HAc b w a n c f):SlDeed w a n f:=h.sl w (Agr.refl _ _)
theorem DSub.agr {w V:World}{b:Nat}{r:DR}(h:DSub w b r)(c:Agr b w V):DSub V b r:=⟨eO h.act c,eO h.lnk c⟩
theorem DRow.agr {w V:World}{b:Nat}{v:Value}{R:List DR}(h:DRow w b v R)(c:Agr b w V):DRow V b v R:=⟨eO h.own c,fun r d=>(h.sub r d).agr c,h.up⟩
theorem gZ {w:World}{d size n f c:Nat}{e:TypeId}{a:Option Addr}{i:List Value}(h:w.ownsRow d e size (.slice a n c) f i):n<=c:=by
 rcases h.2 with ⟨b,h0⟩ | ⟨g,cap,cur,b,hb,hg,hc,_⟩
 ·simp only[Value.slice.injEq] at b
  omega
 ·simp only[Value.slice.injEq] at b
  omega
theorem yT {w:World}{b c:Nat}{a:Option Addr}{R:List DR}(h:DRow w b (.slice a R.length c) R)(j:∀ r∈R,FitD r.1)(hn:R.length<=50000):HAc b w a R.length c (dF (R.map (·.1))):=by refine⟨fun V d=>(h.agr d).deeds,gZ h.own,hn,fun i hi=>?_⟩;obtain⟨r,f,g⟩:=dI hi;rw[jb f];exact j r g
def DA (w:World)(R q:Nat)(e:Ending)(b:World):Prop:=∃ (a:Option Addr) (n c:Nat) (f:Nat->ar),e=.returned (.agg #[.slice a n c])/\HAc w.heap.size b a n c f/\∃ q':Nat,q'<=q/\Rd b R q'/\Only R w b
theorem iA {c:Type}(g:c->List Value)(C:Nat)(b:∀ x,(g x).length=C){j:Nat}(f:j<C){x y:c}{u:Value}(d:g y=(g x).set j u):∀ (L:List c) (k:Nat),L[k]?=some x->(L.flatMap g).set (k*C+j) u=(L.set k y).flatMap g
 | [],k,h=>by simp at h
 | z :: L,0,h=>by
  obtain rfl:z=x:=by simpa using h
  simp only[List.flatMap_cons,List.set_cons_zero,Nat.zero_mul,Nat.zero_add];rw[List.set_append_left _ _ (by rw[b];exact f),d]
 | z :: L,k+1,h=>by
  have i:L[k]?=some x:=by simpa using h
  have e:(k+1)*C+j - C=k*C+j:=by rw[Nat.add_mul];omega
  simp only[List.flatMap_cons,List.set_cons_succ];rw[List.set_append_right _ _ (by rw[b,Nat.add_mul];omega),b,e,iA g C b f d L k i]
structure DRw (w:World)(base:Nat)(v:Value)(R:List DR):Prop where
 own:w.ownsRow base 67 6 v R.length (R.flatMap ddV)
 sub:∀ r∈R,DSub w base r
theorem DRow.rw {w:World}{b:Nat}{v:Value}{R:List DR}(h:DRow w b v R):DRw w b v R:=⟨h.own,h.sub⟩
theorem DRw.agr {w V:World}{b:Nat}{v:Value}{R:List DR}(h:DRw w b v R)(c:Agr b w V):DRw V b v R:=⟨eO h.own c,fun r d=>(h.sub r d).agr c⟩
theorem DRw.mono {w:World}{b base':Nat}{v:Value}{R:List DR}(h:DRw w b v R)(hb:base'<=b):DRw w base' v R:=⟨aB h.own hb,fun r c=>(h.sub r c).mono hb⟩
theorem DRw.below {w c:World}{b B:Nat}{v:Value}{R:List DR}(h:DRw w b v R)(hb:Below B w c)(d:w.heap.size<=B):DRw c b v R:=⟨own_below h.own hb d,fun r f=>(h.sub r f).below hb d⟩
theorem DRw.deeds {w:World}{b c:Nat}{a:Option Addr}{R:List DR}(h:DRw w b (.slice a R.length c) R):SlDeed w a R.length (dF (R.map (·.1))):=by
 by_cases hz:R.length=0
 ·exact .inl hz
 ·obtain⟨g,c',e⟩:=dm h.own (by omega)
  cases e
  refine .inr ⟨g,0,rfl,(cu h.own).2,fun i hi=>?_⟩;obtain⟨r,d,f⟩:=dI hi;rw[jb d];have c:∀ j,j<6->∀ u,(ddV r)[j]?=some u->w.cell? ⟨g,0+i*6+j,none⟩=some u:=fun j q u s=>by rw[show 0+i*6+j=i*6+j by omega];exact(fX h.own d j q s).1
  obtain⟨k,c4,l,n⟩:=(h.sub r f).ins;obtain⟨p,c5,m,o⟩:=(h.sub r f).links;exact⟨c 0 (by omega) _ rfl,c 1 (by omega) _ rfl,c 2 (by omega) _ rfl,c 3 (by omega) _ rfl,⟨k,c4,by rw[<-l];exact c 4 (by omega) _ rfl,n⟩,⟨p,c5,by rw[<-m];exact c 5 (by omega) _ rfl,o⟩⟩
theorem uS {w:World}{b n c:Nat}{a:Option Addr}{R:List DR}(h:DRw w b (.slice a n c) R)(e:n=R.length)(j:∀ r∈R,FitD r.1)(hn:R.length<=50000):HAc b w a n c (dF (R.map (·.1))):=by subst e;refine⟨fun V d=>(h.agr d).deeds,gZ h.own,hn,fun i hi=>?_⟩;obtain⟨r,f,g⟩:=dI hi;rw[jb f];exact j r g
theorem DSub.put {w:World}{b g j:Nat}{r:DR}{d:Array Value}{fz:Nat × Nat}(h:DSub w b r)(c:w.heap[g]?=some (.cells d 67 fz))(u:Value):DSub (w.setCell ⟨g,j,none⟩ u) b r :=
 ⟨ek h.act c (by decide) u,ek h.lnk c (by decide) u⟩
theorem DRw.fld {w:World}{b g n c k j:Nat}{R:List DR}{r r':DR}{u:Value}(h:DRw w b (.slice (some ⟨g,0,none⟩) n c) R)(e:n=R.length)(q:R[k]?=some r)(s:j<6)(p:ddV r'=(ddV r).set j u)(l:DSub w b r'):DRw (w.setCell ⟨g,k*6+j,none⟩ u) b (.slice (some ⟨g,0,none⟩) n c) (R.set k r'):=by
 subst e;obtain⟨cs,z,i⟩:=eJ h.own g rfl;have f:=ix (j:=k*6+j) h.own u;rw[iA ddV 6 (fun _=>rfl) s p R k q] at f;refine⟨by rw[List.length_set];exact f,fun o d=>?_⟩;rcases List.mem_or_eq_of_mem_set d with m | rfl
 ·exact(h.sub o m).put i u
 ·exact l.put i u
theorem kw {R:List DR}{k:Nat}{r':DR}(h:∀ r∈R,FitD r.1)(b:FitD r'.1):∀ r∈R.set k r',FitD r.1:=fun r c=>by
 rcases List.mem_or_eq_of_mem_set c with d | rfl
 ·exact h r d
 ·exact b
structure SpS (w:World)(R X:Nat)(W:World)(q:Nat)(a:Option Addr)(c:Nat)(D:List DR):Prop where
 rd:Rd W R q
 o:Only R w W
 rs:W.heap[w.heap.size+1]?=some (.cells #[.slice none 0 0] 59 (0,0))
 bx:W.heap[X]?=some (.cells #[.slice a D.length c] 59 (0,0))
 row:DRw W (w.heap.size+2) (.slice a D.length c) D
 fit:∀ r∈D,FitD r.1
 lo:R<w.heap.size
 hX:w.heap.size+2<=X
 num:D.length<=1000
section
variable {w W W':World}{R X q q' c g k j:Nat}{a:Option Addr}{D:List DR}{r r':DR}{u:Value}
theorem SpS.lt (h:SpS w R X W q a c D):X<W.heap.size:=au h.bx
theorem SpS.only (h:SpS w R X W q a c D)(b:Only R W W')(hR:Rd W' R q'):SpS w R X W' q' a c D:=by have hl:=h.lo;have hx:=h.hX;exact⟨hR,h.o.trans b,(b.block _ (au h.rs) (by omega)).trans h.rs,(b.block _ h.lt (by omega)).trans h.bx,h.row.agr (b.agr (by omega)),h.fit,h.lo,h.hX,h.num⟩
theorem SpS.below (h:SpS w R X W q a c D)(b:Below W.heap.size W W'):SpS w R X W' q a c D:=h.only (Only.of_below b) (h.rd.below b ly)
theorem SpS.box (h:SpS w R X W q a c D):W.cell? ⟨X,0,none⟩=some (.slice a D.length c)/\W.frozen? ⟨X,0,none⟩=false:=by
 have hb:=h.bx;constructor
 ·simp[World.cell?,hb]
 ·simp[World.frozen?,hb]
theorem SpS.at_ (h:SpS w R X W q (some ⟨g,0,none⟩) c D)(d:D[k]?=some r)(f:j<6)(b:(ddV r)[j]?=some u):W.cell? ⟨g,k*6+j,none⟩=some u/\W.frozen? ⟨g,k*6+j,none⟩=false:=fX h.row.own d j f b
theorem SpS.gb (h:SpS w R X W q (some ⟨g,0,none⟩) c D):w.heap.size+2<=g/\g<W.heap.size/\g≠X/\∃ d z,W.heap[g]?=some (.cells d 67 z):=by obtain⟨d,z,b⟩:=eJ h.row.own g rfl;obtain⟨f,i⟩:=cu h.row.own;refine⟨f,i,fun e=>?_,d,z,b⟩;rw[e,h.bx] at b;simp at b
theorem SpS.put (h:SpS w R X W q (some ⟨g,0,none⟩) c D){b:List DR}(hn:b.length=D.length)(i:DRw (W.setCell ⟨g,j,none⟩ u) (w.heap.size+2) (.slice (some ⟨g,0,none⟩) D.length c) b)(k:∀ r∈b,FitD r.1):SpS w R X (W.setCell ⟨g,j,none⟩ u) q (some ⟨g,0,none⟩) c b:=by
 obtain⟨f,h2,d,cs,z,hg⟩:=h.gb;have hl:=h.lo;have B:=(Below.refl (w.heap.size+2) W).setCell (p:=⟨g,j,none⟩) f u;refine⟨h.rd.low B (by omega),h.o.then (B.mono (by omega)),(B.block _ (by omega)).trans h.rs,?_,?_,k,h.lo,h.hX,by rw[hn];exact h.num⟩
 ·rw[hn]
  exact(qh _ _ _ _ (fun e=>d e.symm)).trans h.bx
 ·rw[hn]
  exact i
theorem SpS.fld (h:SpS w R X W q (some ⟨g,0,none⟩) c D)(b:D[k]?=some r)(f:j<6)(d:ddV r'=(ddV r).set j u)(i:DSub W (w.heap.size+2) r')(l:FitD r'.1):SpS w R X (W.setCell ⟨g,k*6+j,none⟩ u) q (some ⟨g,0,none⟩) c (D.set k r') :=
 h.put List.length_set (h.row.fld rfl b f d i) (kw h.fit l)
end
theorem SpS.fin {w W:World}{R X q c Q:Nat}{a:Option Addr}{D:List DR}(h:SpS w R X W q a c D)(b:q<=Q):DA w R Q (.returned (.agg #[.slice a D.length c])) (W.setCell ⟨w.heap.size+1,0,none⟩ (.slice a D.length c)):=by
 have hl:=h.lo;have B:=(Below.refl w.heap.size W).setCell (p:=⟨w.heap.size+1,0,none⟩) (Nat.le_succ _) (.slice a D.length c);have d:Agr (w.heap.size+2) W (W.setCell ⟨w.heap.size+1,0,none⟩ (.slice a D.length c)):=⟨by simp,fun k h1 _=>qh _ _ _ _ (by show k≠w.heap.size+1;omega)⟩
 exact⟨a,D.length,c,_,rfl,(uS (h.row.agr d) rfl h.fit (by have:=h.num;omega)).mono (by omega),q,b,h.rd.low B h.lo,h.o.then B⟩
def nd (x:ar):Prop:=FitD x/\x.text.size<=2000/\x.actN<=200/\x.linksN<=200
theorem FitD.kind {x:ar}(h:FitD x)(z:Int):FitD { x with kind:=z }:=⟨h.nm,h.tx,h.an,h.asz,h.ln,h.lsz⟩
theorem FitD.code {x:ar}(h:FitD x)(z:Int):FitD { x with code:=z }:=⟨h.nm,h.tx,h.an,h.asz,h.ln,h.lsz⟩
theorem FitD.text {x:ar}(h:FitD x){t:ByteArray}(b:t.size<=5000):FitD { x with text:=t }:=⟨h.nm,b,h.an,h.asz,h.ln,h.lsz⟩
theorem FitD.name {x:ar}(h:FitD x){t:ByteArray}(b:t.size<=5000):FitD { x with name:=t }:=⟨b,h.tx,h.an,h.asz,h.ln,h.lsz⟩
theorem DSub.same {w:World}{b:Nat}{r:DR}(h:DSub w b r)(y:ar)(d:y.actN=r.1.actN)(c:y.act=r.1.act)(f:y.linksN=r.1.linksN)(g:y.links=r.1.links):DSub w b (y,r.2):=by
 refine⟨?_,?_⟩
 ·show w.ownsRow b 176 3 r.2.1 y.actN (bI y.act y.actN)
  rw[d,c];exact h.act
 ·show w.ownsRow b 73 4 r.2.2 y.linksN (bJ y.links y.linksN)
  rw[f,g];exact h.lnk
def gw (W:World)(g k:Nat)(r:DR):World:=(((((W.setCell ⟨g,k*6,none⟩ (.string r.1.name)).setCell ⟨g,k*6+1,none⟩ (.int .i64 r.1.kind)).setCell ⟨g,k*6+2,none⟩ (.int .i64 r.1.code)).setCell ⟨g,k*6+3,none⟩ (.string r.1.text)).setCell ⟨g,k*6+4,none⟩ r.2.1).setCell ⟨g,k*6+5,none⟩ r.2.2
theorem gH {W:World}{b g n c k j:Nat}{D:List DR}{r r':DR}{u:Value}(h:W.ownsRow b 67 6 (.slice (some ⟨g,0,none⟩) n c) n ((D.set k r).flatMap ddV))(i:k<D.length)(l:j<6)(f:ddV r'=(ddV r).set j u):(W.setCell ⟨g,k*6+j,none⟩ u).ownsRow b 67 6 (.slice (some ⟨g,0,none⟩) n c) n ((D.set k r').flatMap ddV):=by have d:=ix (j:=k*6+j) h u;rw[iA ddV 6 (fun _=>rfl) l f (D.set k r) k (by rw[List.getElem?_set_self i]),List.set_set] at d;exact d
theorem qi {W:World}{b g n c k:Nat}{D:List DR}{r:DR}(r':DR)(h:W.ownsRow b 67 6 (.slice (some ⟨g,0,none⟩) n c) n (D.flatMap ddV))(s:D[k]?=some r):(gw W g k r').ownsRow b 67 6 (.slice (some ⟨g,0,none⟩) n c) n ((D.set k r').flatMap ddV):=by
 obtain⟨d,i⟩:=List.getElem?_eq_some_iff.1 s;have m:W.ownsRow b 67 6 (.slice (some ⟨g,0,none⟩) n c) n ((D.set k r).flatMap ddV):=by rw[<-i,List.set_getElem_self];exact h
 have o:=gH (j:=0) (u:=.string r'.1.name) (r':=({ r.1 with name:=r'.1.name },r.2)) m d (by omega) rfl;have p:=gH (j:=1) (u:=.int .i64 r'.1.kind) (r':=({ r.1 with name:=r'.1.name,kind:=r'.1.kind },r.2)) o d (by omega) rfl;have f:=gH (j:=2) (u:=.int .i64 r'.1.code) (r':=({ r.1 with name:=r'.1.name,kind:=r'.1.kind,code:=r'.1.code },r.2)) p d (by omega) rfl;have q:=gH (j:=3) (u:=.string r'.1.text) (r':=({ r.1 with name:=r'.1.name,kind:=r'.1.kind,code:=r'.1.code,text:=r'.1.text },r.2)) f d (by omega) rfl;have l:=gH (j:=4) (u:=r'.2.1) (r':=({ r.1 with name:=r'.1.name,kind:=r'.1.kind,code:=r'.1.code,text:=r'.1.text },r'.2.1,r.2.2)) q d (by omega) rfl;exact gH (j:=5) (u:=r'.2.2) (r':=r') l d (by omega) rfl
theorem eo (W:World)(g k m:Nat)(r:DR)(h:m≠g):(gw W g k r).heap[m]?=W.heap[m]?:=by unfold gw;repeat rw[qh _ _ _ _ (by show m≠g;exact h)]
theorem mx (W:World)(g k B:Nat)(r:DR)(h:B<=g):Below B W (gw W g k r) :=
 ((((((Below.refl B W).setCell (p:=⟨g,k*6,none⟩) h _).setCell (p:=⟨g,k*6+1,none⟩) h _).setCell (p:=⟨g,k*6+2,none⟩) h _).setCell (p:=⟨g,k*6+3,none⟩) h _).setCell (p:=⟨g,k*6+4,none⟩) h _).setCell (p:=⟨g,k*6+5,none⟩) h _
theorem DSub.far {W W':World}{b:Nat}{r:DR}(h:DSub W b r)(c:∀ m,r.2.1.ownBlock=some m->OfTy W m 176->W'.heap[m]?=W.heap[m]?)(d:∀ m,r.2.2.ownBlock=some m->OfTy W m 73->W'.heap[m]?=W.heap[m]?):DSub W' b r:=⟨dJ h.act c,dJ h.lnk d⟩
theorem SpS.deed {w W W':World}{R X q q' c g k n V:Nat}{D:List DR}{r:DR}(h:SpS w R X W q (some ⟨g,0,none⟩) c D)(C:D.Pairwise fun a b=>Apt a.2.1 b.2.1/\Apt a.2.2 b.2.2)(T:D[k]?=some r)(O:r∈D)(L:r.2.2=.slice (some ⟨n,0,none⟩) r.1.linksN V)
  (hR:Rd W' R q') (hO:Only R w W') (keep:∀ i,i<W.heap.size->i≠R->i≠n->W'.heap[i]?=W.heap[i]?) (r':DR) (hs:DSub W' (w.heap.size+2) r') (hf:FitD r'.1):SpS w R X (gw W' g k r') q' (some ⟨g,0,none⟩) c (D.set k r'):=by
 obtain⟨Z,h2,U,cs,z,K⟩:=h.gb;have hlo:=h.lo;have hX:=h.hX;obtain⟨cl2,zl,p⟩:=eJ (h.row.sub r O).lnk n (by rw[L];rfl);have hlb:w.heap.size+2<=n:=((h.row.sub r O).lnk.lt n (by rw[L];rfl)).1;have P:g≠n:=fun e=>by rw[e,p] at K;simp at K
 have N:X≠n:=fun e=>by have:=h.bx;rw[e,p] at this;simp at this
 have S:=keep g h2 (by omega) P;have B:=mx W' g k (w.heap.size+2) r' Z;have M:W'.ownsRow (w.heap.size+2) 67 6 (.slice (some ⟨g,0,none⟩) D.length c) D.length (D.flatMap ddV):=dJ h.row.own fun m d _=>by
  obtain rfl:g=m:=by simpa[Value.ownBlock] using d
  exact S
 have hn:(D.set k r').length=D.length:=List.length_set;have Q:∀ m e,OfTy W m e->e≠73->w.heap.size+2<=m->W'.heap[m]?=W.heap[m]?:=fun m e j Y hb=>by obtain⟨c0,z0,f⟩:=j;exact keep m (au f) (by omega) (fun o=>by rw[o,p] at f;simp at f;exact Y f.2.1.symm)
 have u:∀ s,DSub W' (w.heap.size+2) s->DSub (gw W' g k r') (w.heap.size+2) s:=fun s t=>by
  have I:W'.heap[g]?=some (.cells cs 67 z):=S.trans K;refine t.far (fun m _ j=>eo _ _ _ _ _ fun e=>?_) (fun m _ j=>eo _ _ _ _ _ fun e=>?_)
  ·obtain⟨c0,z0,f⟩:=j
   rw[e,I] at f;simp at f
  ·obtain⟨c0,z0,f⟩:=j
   rw[e,I] at f;simp at f
 refine⟨hR.low B (by omega),hO.then (B.mono (by omega)),?_,?_,⟨?_,fun s t=>?_⟩,kw h.fit hf,h.lo,h.hX,by rw[hn];exact h.num⟩
 ·exact(B.block _ (by omega)).trans ((keep _ (au h.rs) (by omega) (by omega)).trans h.rs)
 ·rw[hn]
  exact(eo _ _ _ _ _ (fun e=>U e.symm)).trans ((keep X h.lt (by omega) N).trans h.bx)
 ·rw[hn]
  exact qi r' M T
 ·obtain⟨i,hi⟩:=List.getElem?_of_mem t
  by_cases e:i=k
  ·subst e
   rw[List.getElem?_set_self (by rw[<-hn];exact(List.getElem?_eq_some_iff.1 hi).1)] at hi;obtain rfl:=Option.some.inj hi;exact u _ hs
  ·rw[List.getElem?_set_ne (fun o=>e o.symm)] at hi
   have x:=List.mem_of_getElem? hi;refine u s ((h.row.sub s x).far (fun m d j=>Q m _ j (by decide) ((h.row.sub s x).act.lt m d).1) (fun m d j=>?_));obtain⟨c0,z0,f⟩:=j;have hb:=((h.row.sub s x).lnk.lt m d).1;refine keep m (au f) (by omega) (fun o=>?_);obtain⟨H,J⟩:=List.getElem?_eq_some_iff.1 hi;obtain⟨G,E⟩:=List.getElem?_eq_some_iff.1 T;have A:r.2.2.ownBlock=some n:=by rw[L];rfl
   rcases Nat.lt_or_gt_of_ne e with y | y
   ·have:=(List.pairwise_iff_getElem.1 C i k H G y).2
    rw[J,E] at this;rcases this with l | l
    ·rw[d] at l;cases l
    ·exact l (by rw[d,A,o])
   ·have:=(List.pairwise_iff_getElem.1 C k i G H y).2
    rw[J,E] at this;rcases this with l | l
    ·rw[A] at l;cases l
    ·exact l (by rw[d,A,o])
theorem SpS.actK {w W W':World}{R X q c g b n k l:Nat}{D:List DR}{r:DR}(h:SpS w R X W q (some ⟨g,0,none⟩) c D)(d:r∈D)(s:r.2.1=.slice (some ⟨k,0,none⟩) r.1.actN l)(p:r.2.2=.slice (some ⟨b,0,none⟩) r.1.linksN n)(keep:∀ i,i<W.heap.size->i≠R->i≠b->W'.heap[i]?=W.heap[i]?):W'.ownsRow (w.heap.size+2) 176 3 (.slice (some ⟨k,0,none⟩) r.1.actN l) r.1.actN (bI r.1.act r.1.actN):=by have hlo:=h.lo;obtain⟨cl2,zl,j⟩:=eJ (h.row.sub r d).lnk b (by rw[p];rfl);rw[<-s];refine dJ (h.row.sub r d).act fun m t o=>?_;obtain⟨c0,z0,f⟩:=o;have hb:=((h.row.sub r d).act.lt m t).1;exact keep m (au f) (by omega) (fun e=>by rw[e,j] at f;simp at f)
theorem SpS.kept {w W W':World}{R X q c g d k:Nat}{D:List DR}{r:DR}(h:SpS w R X W q (some ⟨g,0,none⟩) c D)(l:r∈D)(n:r.2.2=.slice (some ⟨d,0,none⟩) r.1.linksN k)(keep:∀ i,i<W.heap.size->i≠R->i≠d->W'.heap[i]?=W.heap[i]?):W'.heap[X]?=W.heap[X]?/\W'.heap[g]?=W.heap[g]?/\g<W'.heap.size:=by obtain⟨h1,m,h3,cs,z,f⟩:=h.gb;have hlo:=h.lo;have hX:=h.hX;obtain⟨cl2,zl,b⟩:=eJ (h.row.sub r l).lnk d (by rw[n];rfl);have j:=keep g m (by omega) (fun e=>by rw[e,b] at f;simp at f);exact⟨keep X h.lt (by omega) (fun e=>by have:=h.bx;rw[e,b] at this;simp at this),j,au (j.trans f)⟩
theorem SpS.six {w W:World}{R X q c g k:Nat}{D:List DR}{r:DR}(h:SpS w R X W q (some ⟨g,0,none⟩) c D)(t:D[k]?=some r)(r':DR)(n:DSub W (w.heap.size+2) r')(x:FitD r'.1):SpS w R X (gw W g k r') q (some ⟨g,0,none⟩) c (D.set k r'):=by
 obtain⟨u,h2,l,cs,z,j⟩:=h.gb;have hlo:=h.lo;have B:=mx W g k (w.heap.size+2) r' u;have hn:(D.set k r').length=D.length:=List.length_set;have d:∀ s,DSub W (w.heap.size+2) s->DSub (gw W g k r') (w.heap.size+2) s:=fun s b=>by
  refine b.far (fun m _ i=>eo _ _ _ _ _ fun e=>?_) (fun m _ i=>eo _ _ _ _ _ fun e=>?_)
  ·obtain⟨c0,z0,f⟩:=i
   rw[e,j] at f;simp at f
  ·obtain⟨c0,z0,f⟩:=i
   rw[e,j] at f;simp at f
 refine⟨h.rd.low B (by omega),h.o.then (B.mono (by omega)),(B.block _ (by omega)).trans h.rs,?_,⟨?_,fun s b=>?_⟩,kw h.fit x,h.lo,h.hX,by rw[hn];exact h.num⟩
 ·rw[hn]
  exact(eo _ _ _ _ _ (fun e=>l e.symm)).trans h.bx
 ·rw[hn]
  exact qi r' h.row.own t
 ·rcases List.mem_or_eq_of_mem_set b with p | rfl
  ·exact d s (h.row.sub s p)
  ·exact d _ n
theorem DSub.form {w:World}{b c g d f:Nat}{r:DR}(h:DSub w b r)(j:r.2.1=.slice (some ⟨c,0,none⟩) r.1.actN g)(i:r.2.2=.slice (some ⟨d,0,none⟩) r.1.linksN f):DSub w b (r.1,.slice (some ⟨c,0,none⟩) r.1.actN g,.slice (some ⟨d,0,none⟩) r.1.linksN f):=by rw[<-j,<-i];exact h
theorem DSub.six {W:World}{b g k:Nat}{s r':DR}{i:Array Value}{z:Nat × Nat}(h:DSub W b s)(f:W.heap[g]?=some (.cells i 67 z)):DSub (gw W g k r') b s:=by
 refine h.far (fun m _ d=>eo _ _ _ _ _ fun e=>?_) (fun m _ d=>eo _ _ _ _ _ fun e=>?_)
 ·obtain⟨c0,z0,c⟩:=d
  rw[e,f] at c;simp at c
 ·obtain⟨c0,z0,c⟩:=d
  rw[e,f] at c;simp at c
def noR:DR:=(fw,.slice none 0 0,.slice none 0 0)
theorem xe (n i:Nat)(h:i<n*6):(dc n)[i]?=(ddV noR)[i % 6]?:=by
 have e:(dc n)[i]?=some ((Value.agg #[.string ⟨#[]⟩,.int .i64 0,.int .i64 0,.string ⟨#[]⟩,.slice none 0 0,.slice none 0 0]).cells[i % 6]!):=by unfold dc madeCells;simp[h];rfl
 rw[e];have b:i % 6<6:=Nat.mod_lt _ (by omega);generalize i % 6=j at b;rcases(show j=0∨j=1∨j=2∨j=3∨j=4∨j=5 by omega) with rfl | rfl | rfl | rfl | rfl | rfl<;>rfl
theorem tI (n:Nat):(dc n).toList=(List.replicate n noR).flatMap ddV:=by
 refine List.ext_getElem? fun i=>?_;by_cases h:i<n*6
 ·have e:i=i / 6*6+i % 6:=by omega
  rw[Array.getElem?_toList,xe n i h];conv=>rhs;rw[e]
  rw[bZ ddV 6 (fun _=>rfl) _ (i / 6) (i % 6) (by omega) noR (by rw[List.getElem?_replicate,if_pos (by omega)])]
 ·have hz:(dc n).size=n*6:=size_madeCells _ _
  rw[List.getElem?_eq_none (by rw[Array.length_toList,hz];omega),List.getElem?_eq_none (by rw[eh ddV 6 (fun _=>rfl),List.length_replicate];omega)]
theorem uT (w:World)(b n:Nat)(hb:b<=w.heap.size)(hn:n<=1000):DRw (w.alloc (.cells (dc n) 67)) b (.slice (some ⟨w.heap.size,0,none⟩) n n) (List.replicate n noR):=by
 have hz:(dc n).size=n*6:=size_madeCells _ _;have d:((List.replicate n noR).flatMap ddV).length=n*6:=by rw[eh ddV 6 (fun _=>rfl),List.length_replicate]
 refine⟨?_,fun r c=>?_⟩
 ·rw[List.length_replicate]
  refine⟨d,.inr ⟨w.heap.size,n,dc n,rfl,hb,heap_alloc_new w _,Nat.le_refl _,by unfold maxLen;omega,hz,?_⟩⟩;rw[<-tI,List.take_of_length_le (by rw[Array.length_toList,hz];omega)]
 ·rw[List.eq_of_mem_replicate c]
  exact⟨World.ownsRow_nil _ _ _ _,World.ownsRow_nil _ _ _ _⟩
theorem uU {w W:World}{R X q c m Q:Nat}{a:Option Addr}{D:List DR}(h:SpS w R X W q a c D)(f:m<=1000)(d:q<=Q):DA w R Q (.returned (.agg #[.slice (some ⟨W.heap.size,0,none⟩) m m])) ((W.setCell ⟨w.heap.size+1,0,none⟩ (.slice (some ⟨W.heap.size,0,none⟩) m m)).alloc (.cells (dc m) 67)):=by
 have hl:=h.lo;have hx:=h.lt;have hX:=h.hX;have hz:(W.setCell ⟨w.heap.size+1,0,none⟩ (.slice (some ⟨W.heap.size,0,none⟩) m m)).heap.size=W.heap.size:=by simp
 have B:=((Below.refl w.heap.size W).setCell (p:=⟨w.heap.size+1,0,none⟩) (Nat.le_succ _) (.slice (some ⟨W.heap.size,0,none⟩) m m)).alloc (by rw[hz];omega) (.cells (dc m) 67);have b:=uT (W.setCell ⟨w.heap.size+1,0,none⟩ (.slice (some ⟨W.heap.size,0,none⟩) m m)) w.heap.size m (by rw[hz];omega) f;rw[hz] at b;exact⟨some ⟨W.heap.size,0,none⟩,m,m,_,rfl,uS b (by rw[List.length_replicate]) (fun r b=>by rw[List.eq_of_mem_replicate b];exact tH) (by rw[List.length_replicate];omega),q,d,h.rd.low B h.lo,h.o.then B⟩
theorem SpS.box_ {w W W':World}{R X q c f:Nat}{a i:Option Addr}{D b:List DR}(h:SpS w R X W q a c D)(y:Below W.heap.size W W')(k:W'.ownsRow (w.heap.size+2) 67 6 (.slice i b.length f) b.length (b.flatMap ddV))(n:∀ r∈b,DSub W' (w.heap.size+2) r)(z:∀ r∈b,FitD r.1)(hn:b.length<=1000):SpS w R X (W'.setCell ⟨X,0,none⟩ (.slice i b.length f)) q i f b:=by
 have g:=h.below y;have hX:=h.hX;have hlo:=h.lo;have B:=(Below.refl (w.heap.size+2) W').setCell (p:=⟨X,0,none⟩) hX (.slice i b.length f);have far:∀ m,m≠X->(W'.setCell ⟨X,0,none⟩ (.slice i b.length f)).heap[m]?=W'.heap[m]?:=fun m t=>qh _ _ _ _ t;have j:∀ m e,OfTy W' m e->e≠59->m≠X:=fun m e d l u=>by obtain⟨c0,z0,x⟩:=d;have:=g.bx;rw[<-u,x] at this;simp at this;exact l this.2.1
 refine⟨g.rd.low B (by omega),g.o.then (B.mono (by omega)),(B.block _ (by omega)).trans g.rs,?_,⟨dJ k fun m _ d=>far m (j m _ d (by decide)),fun r s=>(n r s).far (fun m _ d=>far m (j m _ d (by decide))) (fun m _ d=>far m (j m _ d (by decide)))⟩,z,h.lo,h.hX,hn⟩;exact bG g.bx _
theorem tJ {base g c k:Nat}{D:List DR}(hk:k<D.length)(hc:D.length<=c):∃ d:Addr,(if c=k+1 then some (⟨g,0,none⟩:Addr) else some ⟨g,(k+1)*6,none⟩)=some d /\
  ∀ V:World,V.ownsRow base 67 6 (.slice (some ⟨g,0,none⟩) D.length c) D.length (D.flatMap ddV)->∀ j u,((D.drop (k+1)).flatMap ddV)[j]?=some u->V.cell? (d.add j)=some u:=by
 by_cases h:c=k+1
 ·refine⟨⟨g,0,none⟩,by rw[if_pos h],fun V f j u b=>?_⟩
  rw[List.drop_eq_nil_of_le (by omega)] at b;simp at b
 ·refine⟨⟨g,(k+1)*6,none⟩,by rw[if_neg h],fun V f j u b=>?_⟩
  have i:=f.cells (g:=g) rfl ((k+1)*6+j) u (by
   have e:D.flatMap ddV=(D.take (k+1)).flatMap ddV++(D.drop (k+1)).flatMap ddV:=by rw[<-List.flatMap_append,List.take_append_drop]
   have l:((D.take (k+1)).flatMap ddV).length=(k+1)*6:=by rw[eh ddV 6 (fun _=>rfl),List.length_take,Nat.min_eq_left (by omega)]
   rw[e,List.getElem?_append_right (by omega),l,Nat.add_sub_cancel_left]
   exact b)
  rw[fm] at i ⊢;rwa[Nat.zero_add] at i
theorem uV {V:World}{b g c:Nat}{D:List DR}(k:Nat)(f:V.ownsRow b 67 6 (.slice (some ⟨g,0,none⟩) D.length c) D.length (D.flatMap ddV)):∀ j u,((D.take k).flatMap ddV)[j]?=some u->V.cell? ((⟨g,0,none⟩:Addr).add j)=some u:=by
 intro j u d;refine f.cells (g:=g) rfl j u ?_;have e:D.flatMap ddV=(D.take k).flatMap ddV++(D.drop k).flatMap ddV:=by rw[<-List.flatMap_append,List.take_append_drop]
 rw[e,List.getElem?_append_left (List.getElem?_eq_some_iff.1 d).1];exact d
theorem nf (D:List DR)(h:∀ r∈D,Som r):∀ u∈D.flatMap ddV,u.oneCell'=true:=by intro u j;obtain⟨r,i,b⟩:=List.mem_flatMap.1 j;obtain⟨⟨g,c,f⟩,g',c',d⟩:=h r i;simp only[ddV,f,d,List.mem_cons,nj,or_false] at b;rcases b with rfl | rfl | rfl | rfl | rfl | rfl<;>rfl
end Go.Proofs.YtkophfgkcijjkaaGreatDoor.Vp
