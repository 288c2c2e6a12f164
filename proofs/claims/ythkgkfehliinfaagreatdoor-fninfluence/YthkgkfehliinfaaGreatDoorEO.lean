import Derived.Test.YthkgkfehliinfaaGreatDoorEA
import Derived.Test.YthkgkfehliinfaaGreatDoorGY
import Derived.Test.YthkgkfehliinfaaGreatDoorFZ
set_option linter.all false
open Go renaming Addr.mk->Q,Value.slice->Y,Value.string->U,Value.int->J,Value.agg->ZJ,Obj.cells->N,IntKind.i64->I,World->E,Value->ZB,Ending.returned->ZI,World.heap->z,World.ownsRow->ZV,World.setCell->ZU
open Option renaming none->Z,some->T
open Array renaming size->A
open List renaming length->B
namespace Go.Proofs.YthkgkfehliinfaaGreatDoor.Vp
open RowKit Ca
variable {w W V W':E}{b g n X q j K i ZP o:Nat}{r r':DR}{D R:List DR}{x:au}{a:O_}{f:Nat->au}{u:ZB}{t:F_}
structure FitD (x:au):Prop where
 nm:x.e.size<=5000
 tx:x.H.size<=5000
 an:x.h<=300
 asz:∀j,j<x.h->(x.u j).s.size<=5000
 ln:x.f<=300
 lsz:∀j,j<x.f->(x.l j).e.size<=5000
def FitD.fits (h:FitD x):cX x:=⟨by have:=h.an;omega,by have:=h.ln;omega⟩
def FitD.sized (h:FitD x):fo x:=by
 have h1:=h.nm;have h2:=h.tx;have h3:=h.an;have h5:=h.ln;refine⟨by unfold maxLen;omega,by unfold maxLen;omega,⟨by omega,λj b=>?_⟩,⟨by omega,λj b=>?_⟩⟩;{have:=h.asz j b;unfold maxLen;omega};{have:=h.lsz j b;unfold maxLen;omega}
structure FitK (K:Nat)(x:au):Prop where
 nm:x.e.size<=5000
 tx:x.H.size<=2000+K
 an:x.h<=200+K
 asz:∀j,j<x.h->(x.u j).s.size<=5000
 ln:x.f<=200+K
 lsz:∀j,j<x.f->(x.l j).e.size<=5000
def FitK.d (h:FitK K x)(hK:K<=90):FitD x:=⟨h.nm,by have:=h.tx;omega,by have:=h.an;omega,h.asz,by have:=h.ln;omega,h.lsz⟩
def FitK.up{L:Nat}(h:FitK K x)(hK:K<=L):FitK L x:=⟨h.nm,by have:=h.tx;omega,by have:=h.an;omega,h.asz,by have:=h.ln;omega,h.lsz⟩
def Ii:FitK K fG:=⟨by decide,by show 0<=2000+K;omega,DW _,λj b=>absurd b (by simp[fG]),DW _,λj b=>absurd b (by simp[fG])⟩
def Ar:FitD fG:=⟨by decide,by decide,by decide,λj b=>absurd b (by simp[fG]),by decide,λj b=>absurd b (by simp[fG])⟩
def oY{s:F_}(h:aA s=true):s.size<=60:=by unfold aA at h;rw[j6,nD] at h;exact h.1.2
def Ga (S:x_)(nm:F_):∀x∈bk S (bE S nm).1,FitD x/\x.H.size<=2000/\x.h<=200/\x.f<=200:=by
 obtain⟨ZX,_,l⟩:=mh S nm;intro x ZW;obtain⟨e,m,rfl⟩:=NN.1 ZW;have f:=ZX.W e m;have r:=l (List.ne_nil_of_mem m);have h1:=oY f.nm;have h2:=f.tx;have q:=f.D;have o:(bo S (bE S nm).1 e).f=B e.D:=rfl;have p:(bo S (bE S nm).1 e).h=bP S e:=rfl;have n:bP S e=0\/valid (S.f1 e.tg).u (S.f1 e.tg).h=true/\bP S e=(S.f1 e.tg).h:=by
  rcases f.m with⟨b,_⟩|⟨b,_⟩|⟨b,_,t⟩
  {exact .inl (by unfold bP;rw[eI (by omega)])};{exact .inl (by unfold bP;rw[eI (by omega)])};{refine .inr ⟨r.u _ (bu t).1,?_⟩;unfold bP;rw[eT b]}
 have hn:bP S e<=200:=by
  rcases n with h|⟨h,u⟩
  {omega};{have:=(bJ h).2.2;omega}
 have y:∀j,j<bP S e->((S.f1 e.tg).u j).s.size<=5000:=by
  intro j g;rcases n with h|⟨h,u⟩
  {omega}
  ·have b:=j7 (bJ h).1 (show j<_ by omega);unfold cL at b;rw[nD] at b;have hm:bW ((S.f1 e.tg).u j).op<=2000:=by unfold bW;split<;>omega
   omega
 have i:∀j,j<B e.D->(lkF (bE S nm).1 e.D j).e.size<=5000:=by intro j g;rw[lA (gq g)];have:=oY (f.lname _ (gz g));show(e.D[j]).e.size<=5000;omega
 exact⟨⟨by show e.e.size<=_;omega,by show e.H.size<=_;omega,by rw[p];omega,y,by rw[o];omega,i⟩,h2,by rw[p];exact hn,by rw[o];exact q⟩
structure HAc (base:Nat)(w:E)(a:O_)(n c:Nat)(f:Nat->au):Prop where
 sl:∀V,Agr base w V->SlDeed V a n f
 j_:n<=c
 hn:n<=50000
 aq:∀i,i<n->FitD (f i)
def HAc.agr{c:Nat}(h:HAc b w a n c f)(g:Agr b w V):HAc b V a n c f:=⟨λZN i=>h.sl ZN (g.k i),h.j_,h.hn,h.aq⟩
def HAc.P{c:Nat}(h:HAc b w a n c f)(hb:g<=b):HAc g w a n c f:=⟨λZN i=>h.sl ZN (i.P hb),h.j_,h.hn,h.aq⟩
def DSub.agr (h:DSub w b r)(f:Agr b w V):DSub V b r:=⟨fk h.u f,fk h.az f⟩
def DRow.agr{v:ZB}(h:DRow w b v R)(f:Agr b w V):DRow V b v R:=⟨fk h.y f,λr g=>(h.sub r g).agr f,h.up⟩
def jY{size c:Nat}{e:TypeId}{j:List ZB}(h:ZV w b e size (Y a n c) i j):n<=c:=by
 rcases h.2 with⟨f,h0⟩|⟨g,j_,cur,f,hb,hg,hc,_⟩
 {simp only[IN] at f;omega};{simp only[IN] at f;omega}
def Ja{c:Nat}(h:DRow w b (Y a (B R) c) R)(g:∀r∈R,FitD r.1)(hn:B R<=50000):HAc b w a (B R) c (dF (R.map (·.1))):=by refine⟨λV j=>(h.agr j).bd,jY h.y,hn,λi hi=>?_⟩;obtain⟨r,l,f⟩:=dG hi;rw[iM l];exact g r f
def DAK (K:Nat)(w:E)(R q:Nat)(e:Ending)(b:E):Prop:=∃(a:O_) (n c:Nat) (f:Nat->au),e=ZI (ZJ #[Y a n c])/\HAc (A (z w)) b a n c f/\(∃q':Nat,q'<=q/\Rd b R q'/\zd R w b)/\n<=450+K/\∀i,i<n->FitK K (f i)
def ku {f:Type}(g:f->List ZB)(C:Nat)(b:∀x,(g x).length=C){j:Nat}(l:j<C){x y:f}{u:ZB}(i:g y=(g x).set j u):∀(L:List f) (k:Nat),L[k]?=T x->(L.flatMap g).set (k*C+j) u=(L.set k y).flatMap g
 |[],k,h=>by simp at h
 |ZX::L,0,h=>by
  obtain rfl:ZX=x:=by simpa using h
  simp only[N9,List.set_cons_zero,UR,IT];rw[WW _ _ (by rw[b];exact l),i]
 |ZX::L,k+1,h=>by
  have m:L[k]?=T x:=by simpa using h
  have e:(k+1)*C+j - C=k*C+j:=by rw[Nat.add_mul];omega
  simp only[N9,VA];rw[T9 _ _ (by rw[b,Nat.add_mul];omega),b,e,ku g C b l i L k m]
structure DRw (w:E)(base:Nat)(v:ZB)(R:List DR):Prop where
 y:ZV w base 58 6 v (B R) (R.flatMap ddV)
 sub:∀r∈R,DSub w base r
def DRow.rw{v:ZB}(h:DRow w b v R):DRw w b v R:=⟨h.y,h.sub⟩
def DRw.agr{v:ZB}(h:DRw w b v R)(f:Agr b w V):DRw V b v R:=⟨fk h.y f,λr g=>(h.sub r g).agr f⟩
def DRw.P{base':Nat}{v:ZB}(h:DRw w b v R)(hb:base'<=b):DRw w base' v R:=⟨aE h.y hb,λr f=>(h.sub r f).P hb⟩
def DRw.aa{f:E}{ZY:Nat}{v:ZB}(h:DRw w b v R)(hb:Below ZY w f)(g:A (z w)<=ZY):DRw f b v R:=⟨J_ h.y hb g,λr i=>(h.sub r i).aa hb g⟩
def DRw.bd{c:Nat}(h:DRw w b (Y a (B R) c) R):SlDeed w a (B R) (dF (R.map (·.1))):=by
 by_cases hz:B R=0;{exact .inl hz}
 ·obtain⟨g,c',e⟩:=dr h.y (by omega);cases e
  refine .inr ⟨g,0,rfl,(cV h.y).2,λi hi=>?_⟩;obtain⟨r,f,l⟩:=dG hi;rw[iM f];have c:∀j,j<6->∀u,(ddV r)[j]?=T u->w.cell? (Q g (0+i*6+j) Z)=T u:=λj p u m=>by rw[show 0+i*6+j=i*6+j by omega];exact(iU h.y f j p m).1
  obtain⟨s,c4,t,n⟩:=(h.sub r l).ins;obtain⟨q,c5,o,x⟩:=(h.sub r l).l;exact⟨c 0 (by omega) _ rfl,c 1 (by omega) _ rfl,c 2 (by omega) _ rfl,c 3 (by omega) _ rfl,⟨s,c4,by rw[<-t];exact c 4 (by omega) _ rfl,n⟩,⟨q,c5,by rw[<-o];exact c 5 (by omega) _ rfl,x⟩⟩
def CY{c:Nat}(h:DRw w b (Y a n c) R)(e:n=B R)(g:∀r∈R,FitD r.1)(hn:B R<=50000):HAc b w a n c (dF (R.map (·.1))):=by subst e;refine⟨λV j=>(h.agr j).bd,jY h.y,hn,λi hi=>?_⟩;obtain⟨r,l,f⟩:=dG hi;rw[iM l];exact g r f
def DSub.put{i:Array ZB}{fz:Nat × Nat}(h:DSub w b r)(f:w.heap[g]?=T (N i 58 fz))(u:ZB):DSub (ZU w (Q g j Z) u) b r:=
 ⟨dJ h.u f (by decide) u,dJ h.az f (by decide) u⟩
def DRw.ao{c k:Nat}(h:DRw w b (Y (T (Q g 0 Z)) n c) R)(e:n=B R)(q:R[k]?=T r)(o:j<6)(m:ddV r'=(ddV r).set j u)(s:DSub w b r'):DRw (ZU w (Q g (k*6+j) Z) u) b (Y (T (Q g 0 Z)) n c) (R.set k r'):=by
 subst e;obtain⟨cs,ZX,i⟩:=fS h.y g rfl;have l:=gU (j:=k*6+j) h.y u;rw[ku ddV 6 (λ_=>rfl) o m R k q] at l;refine⟨by rw[NJ];exact l,λp f=>?_⟩;rcases OR f with h2|rfl;{exact(h.sub p h2).put i u};{exact s.put i u}
def oI{P:au->Prop}{k:Nat}(h:∀r∈R,P r.1)(b:P r'.1):∀r∈R.set k r',P r.1:=λr f=>by
 rcases OR f with h2|rfl
 ·exact h r h2
 ·exact b
variable {K:Nat}
structure SpS (K:Nat)(w:E)(R X:Nat)(W:E)(q:Nat)(a:O_)(c:Nat)(D:List DR):Prop where
 rd:Rd W R q
 o:zd R w W
 rs:W.heap[A (z w)+1]?=T (N #[Y Z 0 0] 25 (0,0))
 bx:W.heap[X]?=T (N #[Y a (B D) c] 25 (0,0))
 row:DRw W (A (z w)+2) (Y a (B D) c) D
 aq:∀r∈D,FitK K r.1
 lo:R<A (z w)
 hX:A (z w)+2<=X
 num:B D<=450+K
section
variable {w W W':E}{R X q q' c g k j:Nat}{a:O_}{D:List DR}{r r':DR}{u:ZB}
def SpS.lt (h:SpS K w R X W q a c D):X<A (z W):=aj h.bx
def SpS.ac (h:SpS K w R X W q a c D)(b:zd R W W')(hR:Rd W' R q'):SpS K w R X W' q' a c D:=by have hl:=h.lo;have hx:=h.hX;exact⟨hR,h.o.k b,(b.p _ (aj h.rs) (by omega)).k h.rs,(b.p _ h.lt (by omega)).k h.bx,h.row.agr (b.agr (by omega)),h.aq,h.lo,h.hX,h.num⟩
def SpS.aa (h:SpS K w R X W q a c D)(b:Below (A (z W)) W W'):SpS K w R X W' q a c D:=h.ac (zd.q b) (h.rd.aa b ly)
def SpS.ab (h:SpS K w R X W q a c D):W.cell? (Q X 0 Z)=T (Y a (B D) c)/\W.frozen? (Q X 0 Z)=false:=by
 have hb:=h.bx;constructor;{simp[World.cell?,hb]};{simp[World.frozen?,hb]}
def SpS.G (h:SpS K w R X W q (T (Q g 0 Z)) c D)(i:D[k]?=T r)(f:j<6)(b:(ddV r)[j]?=T u):W.cell? (Q g (k*6+j) Z)=T u/\W.frozen? (Q g (k*6+j) Z)=false:=iU h.row.y i j f b
def SpS.gb (h:SpS K w R X W q (T (Q g 0 Z)) c D):A (z w)+2<=g/\g<A (z W)/\g≠X/\∃b ZX,W.heap[g]?=T (N b 58 ZX):=by obtain⟨b,ZX,f⟩:=fS h.row.y g rfl;obtain⟨h1,h2⟩:=cV h.row.y;refine⟨h1,h2,λe=>?_,b,ZX,f⟩;rw[e,h.bx] at f;simp at f
def SpS.put (h:SpS K w R X W q (T (Q g 0 Z)) c D){b:List DR}(hn:B b=B D)(l:DRw (ZU W (Q g j Z) u) (A (z w)+2) (Y (T (Q g 0 Z)) (B D) c) b)(i:∀r∈b,FitK K r.1):SpS K w R X (ZU W (Q g j Z) u) q (T (Q g 0 Z)) c b:=by
 obtain⟨h1,h2,f,cs,ZX,hg⟩:=h.gb;have hl:=h.lo;have ZY:=(a8 (A (z w)+2) W).setCell (p:=(Q g j Z)) h1 u;refine⟨h.rd.low ZY (by omega),h.o.then (ZY.P (by omega)),(ZY.p _ (by omega)).k h.rs,?_,?_,i,h.lo,h.hX,by rw[hn];exact h.num⟩;{rw[hn];exact(qh _ _ _ _ (λe=>f e.c)).k h.bx};{rw[hn];exact l}
def SpS.ao (h:SpS K w R X W q (T (Q g 0 Z)) c D)(l:D[k]?=T r)(m:j<6)(b:ddV r'=(ddV r).set j u)(f:DSub W (A (z w)+2) r')(i:FitK K r'.1):SpS K w R X (ZU W (Q g (k*6+j) Z) u) q (T (Q g 0 Z)) c (D.set k r'):=
 h.put NJ (h.row.ao rfl l m b f) (oI h.aq i)
end
def SpS.fin{R c:Nat}(h:SpS K w R X W q a c D)(f:K<=90)(l:q<=ZP):DAK K w R ZP (ZI (ZJ #[Y a (B D) c])) (ZU W (Q (A (z w)+1) 0 Z) (Y a (B D) c)):=by
 have hl:=h.lo;have ZY:=(a8 (A (z w)) W).setCell (p:=(Q (A (z w)+1) 0 Z)) (BV _) (Y a (B D) c);have j:Agr (A (z w)+2) W (ZU W (Q (A (z w)+1) 0 Z) (Y a (B D) c)):=⟨by simp,λk h1 _=>qh _ _ _ _ (by show k≠A (z w)+1;omega)⟩
 exact⟨a,B D,c,_,rfl,(CY (h.row.agr j) rfl (λr b=>(h.aq r b).d f) (by have:=h.num;omega)).P (by omega),⟨q,l,h.rd.low ZY h.lo,h.o.then ZY⟩,h.num,λi hi=>by
  obtain⟨r,b,g⟩:=dG hi;rw[iM b]
  exact h.aq r g⟩
def FitI (x:au):Prop:=FitD x/\x.H.size<=2000/\x.h<=200/\x.f<=200
def FitI.k (h:FitI x):FitK K x:=⟨h.1.nm,by have:=h.2.1;omega,by have:=h.2.2.1;omega,h.1.asz,by have:=h.2.2.2;omega,h.1.lsz⟩
def FitK.m (h:FitK K x)(ZX:Int):FitK K { x with m:=ZX }:=⟨h.nm,h.tx,h.an,h.asz,h.ln,h.lsz⟩
def FitK.M (h:FitK K x)(ZX:Int):FitK K { x with M:=ZX }:=⟨h.nm,h.tx,h.an,h.asz,h.ln,h.lsz⟩
def FitK.H (h:FitK K x)(b:t.size<=2000+K):FitK K { x with H:=t }:=⟨h.nm,b,h.an,h.asz,h.ln,h.lsz⟩
def FitK.e (h:FitK K x)(b:t.size<=5000):FitK K { x with e:=t }:=⟨b,h.tx,h.an,h.asz,h.ln,h.lsz⟩
def DSub.same (h:DSub w b r)(y:au)(f:y.h=r.1.h)(j:y.u=r.1.u)(i:y.f=r.1.f)(g:y.l=r.1.l):DSub w b (y,r.2):=by
 refine⟨?_,?_⟩;{show ZV w b 124 3 r.2.1 y.h (bZ y.u y.h);rw[f,j];exact h.u};{show ZV w b 74 4 r.2.2 y.f (cy y.l y.f);rw[i,g];exact h.az}
def jm (W:E)(g k:Nat)(r:DR):E:=ZU (ZU (ZU (ZU (ZU (ZU W (Q g (k*6) Z) (U r.1.e)) (Q g (k*6+1) Z) (J I r.1.m)) (Q g (k*6+2) Z) (J I r.1.M)) (Q g (k*6+3) Z) (U r.1.H)) (Q g (k*6+4) Z) r.2.1) (Q g (k*6+5) Z) r.2.2
def jC{c k:Nat}(h:ZV W b 58 6 (Y (T (Q g 0 Z)) n c) n ((D.set k r).flatMap ddV))(l:k<B D)(m:j<6)(i:ddV r'=(ddV r).set j u):(ZU W (Q g (k*6+j) Z) u).ownsRow b 58 6 (Y (T (Q g 0 Z)) n c) n ((D.set k r').flatMap ddV):=by have f:=gU (j:=k*6+j) h u;rw[ku ddV 6 (λ_=>rfl) m i (D.set k r) k (by rw[PH l]),V5] at f;exact f
def vZ{c k:Nat}(r':DR)(h:ZV W b 58 6 (Y (T (Q g 0 Z)) n c) n (D.flatMap ddV))(q:D[k]?=T r):(jm W g k r').ownsRow b 58 6 (Y (T (Q g 0 Z)) n c) n ((D.set k r').flatMap ddV):=by
 obtain⟨f,o⟩:=j5.1 q;have l:ZV W b 58 6 (Y (T (Q g 0 Z)) n c) n ((D.set k r).flatMap ddV):=by rw[<-o,List.set_getElem_self];exact h
 have h1:=jC (j:=0) (u:=U r'.1.e) (r':=({ r.1 with e:=r'.1.e },r.2)) l f (by omega) rfl;have h2:=jC (j:=1) (u:=J I r'.1.m) (r':=({ r.1 with e:=r'.1.e,m:=r'.1.m },r.2)) h1 f (by omega) rfl;have i:=jC (j:=2) (u:=J I r'.1.M) (r':=({ r.1 with e:=r'.1.e,m:=r'.1.m,M:=r'.1.M },r.2)) h2 f (by omega) rfl;have p:=jC (j:=3) (u:=U r'.1.H) (r':=({ r.1 with e:=r'.1.e,m:=r'.1.m,M:=r'.1.M,H:=r'.1.H },r.2)) i f (by omega) rfl;have m:=jC (j:=4) (u:=r'.2.1) (r':=({ r.1 with e:=r'.1.e,m:=r'.1.m,M:=r'.1.M,H:=r'.1.H },r'.2.1,r.2.2)) p f (by omega) rfl;exact jC (j:=5) (u:=r'.2.2) (r':=r') m f (by omega) rfl
def fF (W:E)(g k m:Nat)(r:DR)(h:m≠g):(jm W g k r).heap[m]?=W.heap[m]?:=by unfold jm;repeat rw[qh _ _ _ _ (by show m≠g;exact h)]
def qR (W:E)(g k ZY:Nat)(r:DR)(h:ZY<=g):Below ZY W (jm W g k r):=
 ((((((a8 ZY W).setCell (p:=(Q g (k*6) Z)) h _).setCell (p:=(Q g (k*6+1) Z)) h _).setCell (p:=(Q g (k*6+2) Z)) h _).setCell (p:=(Q g (k*6+3) Z)) h _).setCell (p:=(Q g (k*6+4) Z)) h _).setCell (p:=(Q g (k*6+5) Z)) h _
def DSub.far (h:DSub W b r)(g:∀m,r.2.1.ownBlock=T m->OfTy W m 124->W'.heap[m]?=W.heap[m]?)(f:∀m,r.2.2.ownBlock=T m->OfTy W m 74->W'.heap[m]?=W.heap[m]?):DSub W' b r:=⟨ew h.u g,ew h.az f⟩
def SpS.deed{R q' c k cl:Nat}(h:SpS K w R X W q (T (Q g 0 Z)) c D)(ZS:D.Pairwise λa b=>Apt a.2.1 b.2.1/\Apt a.2.2 b.2.2)(V:D[k]?=T r)(ZN:r∈D)(M:r.2.2=Y (T (Q o 0 Z)) r.1.f cl)
  (hR:Rd W' R q') (ZM:zd R w W') (keep:∀i,i<A (z W)->i≠R->i≠o->W'.heap[i]?=W.heap[i]?) (r':DR) (hs:DSub W' (A (z w)+2) r') (hf:FitK K r'.1):SpS K w R X (jm W' g k r') q' (T (Q g 0 Z)) c (D.set k r'):=by
 obtain⟨h1,h2,ZL,cs,ZX,ZQ⟩:=h.gb;have hlo:=h.lo;have hX:=h.hX;obtain⟨cl2,zl,y⟩:=fS (h.row.sub r ZN).az o (by rw[M];rfl);have hlb:A (z w)+2<=o:=((h.row.sub r ZN).az.lt o (by rw[M];rfl)).1;have ZO:g≠o:=λe=>by rw[e,y] at ZQ;simp at ZQ
 have P:X≠o:=λe=>by have:=h.bx;rw[e,y] at this;simp at this
 have S:=keep g h2 (by omega) ZO;have ZY:=qR W' g k (A (z w)+2) r' h1;have O:ZV W' (A (z w)+2) 58 6 (Y (T (Q g 0 Z)) (B D) c) (B D) (D.flatMap ddV):=ew h.row.y λm f _=>by
  obtain rfl:g=m:=by simpa[Value.ownBlock] using f
  exact S
 have hn:(D.set k r').length=B D:=NJ;have ZP:∀m e,OfTy W m e->e≠74->A (z w)+2<=m->W'.heap[m]?=W.heap[m]?:=λm e n he hb=>by obtain⟨c0,z0,j⟩:=n;exact keep m (aj j) (by omega) λp=>by rw[p,y] at j;simp at j;exact he j.2.1.c
 have C:∀s,DSub W' (A (z w)+2) s->DSub (jm W' g k r') (A (z w)+2) s:=λs x=>by
  have ZR:W'.heap[g]?=T (N cs 58 ZX):=S.k ZQ;refine x.far (λm _ n=>fF _ _ _ _ _ λe=>?_) λm _ n=>fF _ _ _ _ _ λe=>?_;{obtain⟨c0,z0,j⟩:=n;rw[e,ZR] at j;simp at j};{obtain⟨c0,z0,j⟩:=n;rw[e,ZR] at j;simp at j}
 refine⟨hR.low ZY (by omega),ZM.then (ZY.P (by omega)),?_,?_,⟨?_,λs x=>?_⟩,oI h.aq hf,h.lo,h.hX,by rw[hn];exact h.num⟩;{exact(ZY.p _ (by omega)).k ((keep _ (aj h.rs) (by omega) (by omega)).k h.rs)};{rw[hn];exact(fF _ _ _ _ _ (λe=>ZL e.c)).k ((keep X h.lt (by omega) P).k h.bx)};{rw[hn];exact vZ r' O V}
 ·obtain⟨i,hi⟩:=PE x;by_cases e:i=k;{subst e;rw[PH (by rw[<-hn];exact(j5.1 hi).1)] at hi;obtain rfl:=IH hi;exact C _ hs}
  ·rw[Q2 (λp=>e p.c)] at hi;have ZW:=I5 hi;refine C s ((h.row.sub s ZW).far (λm f n=>ZP m _ n (by decide) ((h.row.sub s ZW).u.lt m f).1) (λm f n=>?_));obtain⟨c0,z0,j⟩:=n;have hb:=((h.row.sub s ZW).az.lt m f).1;refine keep m (aj j) (by omega) λp=>?_;obtain⟨G,ZT⟩:=j5.1 hi;obtain⟨L,H⟩:=j5.1 V;have u:r.2.2.ownBlock=T o:=by rw[M];rfl
   rcases YO e with t|t;{have:=(D0.1 ZS i k G L t).2;rw[ZT,H] at this;rcases this with l|l;{rw[f] at l;cases l};{exact l (by rw[f,u,p])}};{have:=(D0.1 ZS k i L G t).2;rw[ZT,H] at this;rcases this with l|l;{rw[u] at l;cases l};{exact l (by rw[f,u,p])}}
def SpS.actK{R c p:Nat}(h:SpS K w R X W q (T (Q g 0 Z)) c D)(j:r∈D)(s:r.2.1=Y (T (Q o 0 Z)) r.1.h n)(t:r.2.2=Y (T (Q b 0 Z)) r.1.f p)(keep:∀i,i<A (z W)->i≠R->i≠b->W'.heap[i]?=W.heap[i]?):ZV W' (A (z w)+2) 124 3 (Y (T (Q o 0 Z)) r.1.h n) r.1.h (bZ r.1.u r.1.h):=by have hlo:=h.lo;obtain⟨cl2,zl,l⟩:=fS (h.row.sub r j).az b (by rw[t];rfl);rw[<-s];refine ew (h.row.sub r j).u λm h1 h2=>?_;obtain⟨c0,z0,f⟩:=h2;have hb:=((h.row.sub r j).u.lt m h1).1;exact keep m (aj f) (by omega) (λe=>by rw[e,l] at f;simp at f)
def SpS.kept{R c:Nat}(h:SpS K w R X W q (T (Q g 0 Z)) c D)(m:r∈D)(o:r.2.2=Y (T (Q j 0 Z)) r.1.f n)(keep:∀i,i<A (z W)->i≠R->i≠j->W'.heap[i]?=W.heap[i]?):W'.heap[X]?=W.heap[X]?/\W'.heap[g]?=W.heap[g]?/\g<A (z W'):=by obtain⟨h1,h2,h3,cs,ZX,f⟩:=h.gb;have hlo:=h.lo;have hX:=h.hX;obtain⟨cl2,zl,b⟩:=fS (h.row.sub r m).az j (by rw[o];rfl);have l:=keep g h2 (by omega) (λe=>by rw[e,b] at f;simp at f);exact⟨keep X h.lt (by omega) (λe=>by have:=h.bx;rw[e,b] at this;simp at this),l,aj (l.k f)⟩
def SpS.six{R c k:Nat}(h:SpS K w R X W q (T (Q g 0 Z)) c D)(t:D[k]?=T r)(r':DR)(x:DSub W (A (z w)+2) r')(p:FitK K r'.1):SpS K w R X (jm W g k r') q (T (Q g 0 Z)) c (D.set k r'):=by
 obtain⟨h1,h2,n,cs,ZX,l⟩:=h.gb;have hlo:=h.lo;have ZY:=qR W g k (A (z w)+2) r' h1;have hn:(D.set k r').length=B D:=NJ;have f:∀s,DSub W (A (z w)+2) s->DSub (jm W g k r') (A (z w)+2) s:=λs i=>by
  refine i.far (λm _ j=>fF _ _ _ _ _ λe=>?_) λm _ j=>fF _ _ _ _ _ λe=>?_;{obtain⟨c0,z0,b⟩:=j;rw[e,l] at b;simp at b};{obtain⟨c0,z0,b⟩:=j;rw[e,l] at b;simp at b}
 refine⟨h.rd.low ZY (by omega),h.o.then (ZY.P (by omega)),(ZY.p _ (by omega)).k h.rs,?_,⟨?_,λs i=>?_⟩,oI h.aq p,h.lo,h.hX,by rw[hn];exact h.num⟩;{rw[hn];exact(fF _ _ _ _ _ (λe=>n e.c)).k h.bx};{rw[hn];exact vZ r' h.row.y t};{rcases OR i with u|rfl;{exact f s (h.row.sub s u)};{exact f _ x}}
def DSub.form{f:Nat}(h:DSub w b r)(m:r.2.1=Y (T (Q j 0 Z)) r.1.h f)(l:r.2.2=Y (T (Q i 0 Z)) r.1.f g):DSub w b (r.1,Y (T (Q j 0 Z)) r.1.h f,Y (T (Q i 0 Z)) r.1.f g):=by rw[<-m,<-l];exact h
def DSub.six{f k:Nat}{s:DR}{l:Array ZB}{ZX:Nat × Nat}(h:DSub W f s)(j:W.heap[g]?=T (N l 58 ZX)):DSub (jm W g k r') f s:=by
 refine h.far (λm _ i=>fF _ _ _ _ _ λe=>?_) λm _ i=>fF _ _ _ _ _ λe=>?_;{obtain⟨c0,z0,b⟩:=i;rw[e,j] at b;simp at b};{obtain⟨c0,z0,b⟩:=i;rw[e,j] at b;simp at b}
variable {K:Nat}
def noR:DR:=(fG,Y Z 0 0,Y Z 0 0)
def Gb (n i:Nat)(h:i<n*6):(dA n)[i]?=(ddV noR)[i % 6]?:=by
 have e:(dA n)[i]?=T ((Value.agg #[U ⟨#[]⟩,J I 0,J I 0,U ⟨#[]⟩,Y Z 0 0,Y Z 0 0]).cells[i % 6]!):=by unfold dA madeCells;simp[h];rfl
 rw[e];have b:i % 6<6:=UJ _ (by omega);generalize i % 6=j at b;rcases(show j=0\/j=1\/j=2\/j=3\/j=4\/j=5 by omega) with rfl|rfl|rfl|rfl|rfl|rfl<;>rfl
def As (n:Nat):(dA n).toList=(List.replicate n noR).flatMap ddV:=by
 refine UG λi=>?_;by_cases h:i<n*6
 ·have e:i=i / 6*6+i % 6:=by omega
  rw[NT,Gb n i h];conv=>rhs;rw[e]
  rw[cT ddV 6 (λ_=>rfl) _ (i / 6) (i % 6) (by omega) noR (by rw[List.getElem?_replicate,eT (by omega)])]
 {have hz:(dA n).size=n*6:=size_madeCells _ _;rw[NU (by rw[RC,hz];omega),NU (by rw[fA ddV 6 (λ_=>rfl),SF];omega)]}
def CZ (w:E)(b n:Nat)(hb:b<=A (z w))(hn:n<=1000):DRw (w.alloc (N (dA n) 58)) b (Y (T (Q (A (z w)) 0 Z)) n n) (List.replicate n noR):=by
 have hz:(dA n).size=n*6:=size_madeCells _ _;have f:((List.replicate n noR).flatMap ddV).length=n*6:=by rw[fA ddV 6 (λ_=>rfl),SF]
 refine⟨?_,λr g=>?_⟩;{rw[SF];refine⟨f,.inr ⟨A (z w),n,dA n,rfl,hb,gM w _,p7 _,by unfold maxLen;omega,hz,?_⟩⟩;rw[<-As,NV (by rw[RC,hz];omega)]};{rw[List.eq_of_mem_replicate g];exact⟨CP _ _ _ _,CP _ _ _ _⟩}
def Dc{R c m:Nat}(h:SpS K w R X W q a c D)(hm:m<=450)(f:q<=ZP):DAK K w R ZP (ZI (ZJ #[Y (T (Q (A (z W)) 0 Z)) m m])) ((ZU W (Q (A (z w)+1) 0 Z) (Y (T (Q (A (z W)) 0 Z)) m m)).alloc (N (dA m) 58)):=by
 have hl:=h.lo;have hx:=h.lt;have hX:=h.hX;have hz:A (z (ZU W (Q (A (z w)+1) 0 Z) (Y (T (Q (A (z W)) 0 Z)) m m)))=A (z W):=by simp
 have ZY:=((a8 (A (z w)) W).setCell (p:=(Q (A (z w)+1) 0 Z)) (BV _) (Y (T (Q (A (z W)) 0 Z)) m m)).alloc (by rw[hz];omega) (N (dA m) 58);have b:=CZ (ZU W (Q (A (z w)+1) 0 Z) (Y (T (Q (A (z W)) 0 Z)) m m)) (A (z w)) m (by rw[hz];omega) (by omega);rw[hz] at b
 exact⟨T (Q (A (z W)) 0 Z),m,m,_,rfl,CY b (by rw[SF]) (λr b=>by rw[List.eq_of_mem_replicate b];exact Ar) (by rw[SF];omega),⟨q,f,h.rd.low ZY h.lo,h.o.then ZY⟩,by omega,λi hi=>by
  rw[iM (r:=noR) (by rw[List.getElem?_replicate,eT hi])]
  exact Ii⟩
def SpS.box_{R c:Nat}{i:O_}{b:List DR}(h:SpS K w R X W q a c D)(s:Below (A (z W)) W W')(l:ZV W' (A (z w)+2) 58 6 (Y i (B b) g) (B b) (b.flatMap ddV))(C:∀r∈b,DSub W' (A (z w)+2) r)(ZX:∀r∈b,FitK K r.1)(hn:B b<=450+K):SpS K w R X (ZU W' (Q X 0 Z) (Y i (B b) g)) q i g b:=by
 have j:=h.aa s;have hX:=h.hX;have hlo:=h.lo;have ZY:=(a8 (A (z w)+2) W').setCell (p:=(Q X 0 Z)) hX (Y i (B b) g);have far:∀m,m≠X->(ZU W' (Q X 0 Z) (Y i (B b) g)).heap[m]?=W'.heap[m]?:=λm y=>qh _ _ _ _ y;have n:∀m e,OfTy W' m e->e≠25->m≠X:=λm e f ZW u=>by obtain⟨c0,z0,t⟩:=f;have:=j.bx;rw[<-u,t] at this;simp at this;exact ZW this.2.1
 refine⟨j.rd.low ZY (by omega),j.o.then (ZY.P (by omega)),(ZY.p _ (by omega)).k j.rs,?_,⟨ew l λm _ f=>far m (n m _ f (by decide)),λr x=>(C r x).far (λm _ f=>far m (n m _ f (by decide))) (λm _ f=>far m (n m _ f (by decide)))⟩,ZX,h.lo,h.hX,hn⟩;exact cH j.bx _
def Au{base c k:Nat}(hk:k<B D)(hc:B D<=c):∃f:Addr,(if c=k+1 then T ((Q g 0 Z):Addr) else T ⟨g,(k+1)*6,Z⟩)=T f /\
  ∀V:E,ZV V base 58 6 (Y (T (Q g 0 Z)) (B D) c) (B D) (D.flatMap ddV)->∀j u,((D.drop (k+1)).flatMap ddV)[j]?=T u->V.cell? (f.add j)=T u:=by
 by_cases h:c=k+1;{refine⟨(Q g 0 Z),by rw[eT h],λV i j u b=>?_⟩;rw[List.drop_eq_nil_of_le (by omega)] at b;simp at b}
 ·refine⟨⟨g,(k+1)*6,Z⟩,by rw[eI h],λV i j u b=>?_⟩
  have h1:=i.cells (g:=g) rfl ((k+1)*6+j) u (by
   have e:D.flatMap ddV=(D.take (k+1)).flatMap ddV++(D.drop (k+1)).flatMap ddV:=by rw[<-J2,QO]
   have l:((D.take (k+1)).flatMap ddV).length=(k+1)*6:=by rw[fA ddV 6 (λ_=>rfl),OD,QM (by omega)]
   rw[e,KK (by omega),l,Nat.add_sub_cancel_left]
   exact b)
  rw[gK] at h1 ⊢;rwa[IT] at h1
def Dj{c:Nat}(k:Nat)(h:ZV V b 58 6 (Y (T (Q g 0 Z)) (B D) c) (B D) (D.flatMap ddV)):∀j u,((D.take k).flatMap ddV)[j]?=T u->V.cell? (((Q g 0 Z):Addr).add j)=T u:=by
 intro j u f;refine h.cells (g:=g) rfl j u ?_;have e:D.flatMap ddV=(D.take k).flatMap ddV++(D.drop k).flatMap ddV:=by rw[<-J2,QO]
 rw[e,NI (j5.1 f).1];exact f
def rV (D:List DR)(h:∀r∈D,Som r):∀u∈D.flatMap ddV,u.oneCell'=true:=by intro u f;obtain⟨r,l,b⟩:=QR.1 f;obtain⟨⟨g,c,i⟩,g',c',j⟩:=h r l;simp only[ddV,i,j,vG,nj,QW] at b;rcases b with rfl|rfl|rfl|rfl|rfl|rfl<;>rfl
