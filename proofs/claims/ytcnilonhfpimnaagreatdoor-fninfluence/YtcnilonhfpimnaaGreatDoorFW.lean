import Derived.Test.YtcnilonhfpimnaaGreatDoorFR
import Derived.Deep.WholeRow
import Derived.Deep.DeepCutAuto
set_option linter.all false
set_option maxRecDepth 1000000
set_option maxHeartbeats 8000000
open Go renaming Addr.mk->T,Value.slice->Z,Value.string->U,Value.int->J,Value.bool->ZF,Value.agg->ZJ,Obj.cells->N,IntKind.i64->I,World->E,Value->ZB,TypeId->ZK,Ending.returned->ZI,World.heap->A,World.ownsRow->ZY,World.alloc->ZV,World.cell?->ZW,World.frozen?->ZX,Proofs.Tryz.prog->Pg
open Option renaming none->Y,some->Q
open Bool renaming false->ZA,true->ZH
open Array renaming size->z
open List renaming length->ZU
namespace Go.Proofs.YtcnilonhfpimnaaGreatDoor.Vp
open Tryz RowKit
variable {w w' u:E}{g base n j_ b p j l op:Nat}{e:ZK}{m:Mst}{f:Nat->au}{s r:List F_}{y:Nat->aD}{x:F_}{H:Halt}{t:Turn}{i:List ZB}{a:O_}
def EV (w b:E)(f:Array ZB)(ty:ZK)(ZP:Obj)(j:Nat)(v:ZB)(hz:z (A b)=z (A w))(g:f[j]?=Q v):((b.alloc (N f ty)).alloc ZP).cell? (T (z (A w)) j Y)=Q v:=by rw[<-hz,((a8 (b.alloc (N f ty)).heap.size _).alloc ly ZP).O (p:=(T (z (A b)) j Y)) (by simp)];simp[g]
def kK (m:Mst)(c:Int):Turn:=⟨ZH,c,m.t.e,ZA,⟨#[]⟩,m.j⟩
def Bt{f:ZB}(hM:MAt w b f m)(x:Bool)(c:Int)(t:F_):∃W,(((((((w.setCell (T b 55 Y) (ZF ZA)).setCell (T b 56 Y) (J I 0)).setCell (T b 57 Y) (U ⟨#[]⟩)).setCell (T b 58 Y) (ZF ZA)).setCell (T b 59 Y) (U ⟨#[]⟩)).setCell (T b 60 Y) (J I 0)).alloc (N #[ZF x,J I c,U t] 119)).alloc (N #[ZF m.t.K,J I m.t.M,U m.t.H,ZF m.t.ask,U m.t.e,J I m.t.j] 116)=W/\MAt W b f { m with t:=dk }/\zt b w W/\ZW W (T (z (A w)) 0 Y)=Q (ZF x)/\ZW W (T (z (A w)) 1 Y)=Q (J I c)/\ZW W (T (z (A w)) 2 Y)=Q (U t)/\ZW W (T (z (A w)+1) 3 Y)=Q (ZF m.t.ask)/\ZW W (T (z (A w)+1) 4 Y)=Q (U m.t.e)/\(z (A W))=z (A w)+2:=
 ⟨_,rfl,((hM.setTurn dk).al _).al _,((GC (zt.refl b w) dk).al _).al _,EV w _ _ _ _ _ _ (by simp) rfl,EV w _ _ _ _ _ _ (by simp) rfl,EV w _ _ _ _ _ _ (by simp) rfl,kH _ _ _ _ _ _ (by simp) rfl,kH _ _ _ _ _ _ (by simp) rfl,by simp⟩
def nH (m:Mst)(x:Bool)(c:Int)(t:F_):Mst:=
 if m.t.ask=ZA then { m with t:=dk,S:=upd m.S m.size (eU x),size:=m.size+1 } else if x=ZA then { m with t:=kK m 4 } else if (c == 0)=ZA then { m with t:=kK m 5 } else { m with t:=dk,S:=upd m.S m.size t,size:=m.size+1 }
def EY{u:Mst}{x:Bool}{c:Int}{t:F_}(h:u=nH m x c t):(m.t.ask=ZA/\u={ m with t:=dk,S:=upd m.S m.size (eU x),size:=m.size+1 })\/(m.t.ask=ZH/\x=ZA/\u={ m with t:=kK m 4 })\/(m.t.ask=ZH/\x=ZH/\(c == 0)=ZA/\u={ m with t:=kK m 5 })\/(m.t.ask=ZH/\x=ZH/\c=0/\u={ m with t:=dk,S:=upd m.S m.size t,size:=m.size+1 }):=by unfold nH at h;cases ha:m.t.ask<;>cases x<;>cases hc:(c == 0)<;>simp_all
def jp (b:Nat)(j:ZB)(m:Mst)(x:Bool)(c:Int)(t:F_)(w:E)(hM:MAt w b j m)(ZS:m.size<50):Calls Pg 159 #[.pointer (Q (T b 0 Y)),ZJ #[ZF x,J I c,U t]] w λe w'=>e=ZI (.tuple #[])/\MAt w' b j (nH m x c t)/\zt b w w':=by
 obtain⟨u,s⟩:∃u,u=nH m x c t:=⟨_,rfl⟩
 rw[<-s];have Z8:=ae (EY s);clear s;have hlt:=hM.lt;obtain⟨⟨c5,ZQ⟩,⟨H,ZT⟩,⟨K,L⟩,⟨P,G⟩,⟨O,M⟩,B,D⟩:=hM.turn;obtain⟨W,C,n,p,q0,q1,q2,ZR,p4,hz⟩:=Bt hM x c t;have ZZ:=ae C;have h:=ae n;have l:=ae p;clear hM C n p;go_enter func159,ntmps159;go_upto_region 4 with fail;rw[ZZ.i];clear ZZ c5 H K P O B ZQ ZT L G M D;have hz0:z (A w)<z (A W):=by omega
 have hz1:z (A w)+1<z (A W):=by omega
 clear hz;rcases Z8.i with⟨i,rfl⟩|⟨i,rfl,rfl⟩|⟨i,rfl,hc,rfl⟩|⟨i,rfl,rfl,rfl⟩
 all_goals
  rw[i] at ZR;clear Z8;go_wp2_with (go_at_call 184;refine(kQ b j { m with t:=dk } _ _ _ h).P ?_;rintro e r⟨rfl,f,g⟩;have o:=ae f;have q:Hid (zt b w r):=l.k g;clear f g)
  (try go_region_with (first|(go_at_call 183;refine(nC _ _).P ?_;rintro e w1⟨rfl,y⟩;subst y)|(go_at_call 182;refine(rh b j { m with t:=dk } _ _ ?_ ZS).P ?_;(first|exact h|exact h.drew|exact h.drew.drew);rintro e r⟨rfl,f,g⟩;have o:=ae f;have q:Hid (zt b w r):=zt.k (by repeat (first|exact l|apply zt.drew)) g;clear f g)))
  all_goals
   (try go_wp2)
   refine nd rfl rfl ?_;exact⟨rfl,o,q⟩
def zH (b:Nat)(f:ZB)(m:Mst)(x:Bool)(c:Int)(t:F_)(w:E)(hM:MAt w b f m)(g:m.t.ask=ZA)(i:m.size<50):Calls Pg 159 #[.pointer (Q (T b 0 Y)),ZJ #[ZF x,J I c,U t]] w λe w'=>e=ZI (.tuple #[])/\MAt w' b f { m with t:=dk,S:=upd m.S m.size (eU x),size:=m.size+1 }/\zt b w w':=by have h:=jp b f m x c t w hM i;rwa[nH,eT g] at h
def zI (b:Nat)(f:ZB)(m:Mst)(t:F_)(w:E)(hM:MAt w b f m)(g:m.t.ask=ZH)(i:m.size<50):Calls Pg 159 #[.pointer (Q (T b 0 Y)),ZJ #[ZF ZH,J I 0,U t]] w λe w'=>e=ZI (.tuple #[])/\MAt w' b f { m with t:=dk,S:=upd m.S m.size t,size:=m.size+1 }/\zt b w w':=by have h:=jp b f m ZH 0 t w hM i;rwa[nH,eI (by simp[g]),eI (by simp),eI (by simp)] at h
def rH (b:Nat)(f:ZB)(m:Mst)(c:Int)(t:F_)(w:E)(hM:MAt w b f m)(g:m.t.ask=ZH)(i:m.size<50):Calls Pg 159 #[.pointer (Q (T b 0 Y)),ZJ #[ZF ZA,J I c,U t]] w λe w'=>e=ZI (.tuple #[])/\MAt w' b f { m with t:=kK m 4 }/\zt b w w':=by have h:=jp b f m ZA c t w hM i;rwa[nH,eI (by simp[g]),eT rfl] at h
def vb (b:Nat)(f:ZB)(m:Mst)(c:Int)(t:F_)(w:E)(hM:MAt w b f m)(i:m.t.ask=ZH)(g:(c == 0)=ZA)(j:m.size<50):Calls Pg 159 #[.pointer (Q (T b 0 Y)),ZJ #[ZF ZH,J I c,U t]] w λe w'=>e=ZI (.tuple #[])/\MAt w' b f { m with t:=kK m 5 }/\zt b w w':=by have h:=jp b f m ZH c t w hM j;rwa[nH,eI (by simp[i]),eI (by simp),eT g] at h
def m0:Mst:={ S:=λ_=>⟨#[]⟩,size:=0,av:=0,j:=0,D:=0,t:=dk }
def fD (b:ZB):Array ZB:=(Array.range 61).map (m0.F b)
def Bu (a:O_)(n j_:Nat):Pg.built 240 [(1,Z a n j_)]=Q (fD (Z a n j_)):=by kernel_rfl
def infoM:(Pg.info? 240).map (·.size)=Q 61:=by kernel_rfl
def jq (b:ZB):(fD b).size=61:=by simp[fD]
def EZ (b:ZB)(j:Nat)(h:j<61):(fD b)[j]?=Q (m0.F b j):=by simp[fD,h]
def sK (a:O_)(n j_:Nat):(fD (Z a n j_)).all (·.oneCell')=ZH:=by kernel_rfl
def vd (w:E)(a:O_)(n j_:Nat):MAt (w.alloc (N (fD (Z a n j_)) 240)) (z (A w)) (Z a n j_) m0:=by
 refine⟨by simp,λj b=>⟨?_,?_⟩⟩;{rw[World.cell?_alloc_new];exact EZ _ j b};{simp}
def ve{P:Program}{f:Array Oper}{rest:List Oper}{o:Oper}{a:Act}{ZO:Exit->Act->E->Prop}(j:o.guard=Y)(t:ZK)(b:Array (Nat × Operand))(m:o.op=.build t b)
  (l:List (Nat × ZB)) (cells:Array ZB) (g:(b.map λ(i,x)=>(i,a.eval x)).toList=l) (hb:P.built t l=Q cells) (h:wpList P f ZO rest (a.put o.dst (ZJ cells)) w):wpList P f ZO (o::rest) a w:=by
 refine wpList_build j t b m (by rw[g,hb];rfl) ?_;rw[g,hb];exact h
def Pow.lt (h:Pow w):2<z (A w):=by
 have f:=TZ gPow h 0;rcases OT 2 (z (A w)) with b|b;{exact b};{simp[World.cell?,PO b,Lib.pow10Tab] at f}
def Sim.push{st:Nat}(b:Sim m p st l s)(x:F_)(f:x.size<=2000)(hl:ZU s<50):Sim { m with t:=dk,S:=upd m.S m.size x,size:=m.size+1 } p st l (x::s):=
 ⟨by rw[b.size];exact b.rep.push x,by simp[b.size],by simp;omega,b.hpl,b.hst,b.hlk,λZZ hz=>by
  rcases vG.1 hz with rfl|hz
  ·exact f
  ·exact b.le ZZ hz,b.pl,b.st,b.lk⟩
def jr (b:Bool):(eU b).size<=2000:=by cases b<;>decide
def Six (w:E)(g:Nat):Prop:=g<z (A w)/\∀j,j<6->∃v,ZW w (T g j Y)=Q v/\ZX w (T g j Y)=ZA
def Six.aa{i:E}{B:Nat}(h:Six w g)(b:Below B w i)(f:g<B):Six i g:=⟨lj h.1 b.size,λj l=>by
 obtain⟨v,h1,h2⟩:=h.2 j l
 exact⟨v,(b.O (p:=(T g j Y)) f).k h1,(b.frozen (p:=(T g j Y)) f).k h2⟩⟩
def Six.ac{l:E}(h:Six w g)(f:zt b w l)(i:g≠b):Six l g:=⟨lj h.1 f.size,λj m=>by
 obtain⟨v,h1,h2⟩:=h.2 j m
 exact⟨v,(f.O g j h.1 i).k h1,(f.frozen g j h.1 i).k h2⟩⟩
def lm (w:E)(v0 v1 v2 v3 v4 v5:ZB)(t:ZK):Six (ZV w (N #[v0,v1,v2,v3,v4,v5] t)) (z (A w)):=⟨by simp,λj hj=>by
 rcases(show j=0\/j=1\/j=2\/j=3\/j=4\/j=5 by omega) with rfl|rfl|rfl|rfl|rfl|rfl
 all_goals exact⟨_,by simp;rfl,by simp⟩⟩
def fX{B:Nat}(h:Below B u w)(b:B<=g)(v0 v1 v2 v3 v4 v5:ZB):Below B u ((((((w.setCell (T g 0 Y) v0).setCell (T g 1 Y) v1).setCell (T g 2 Y) v2).setCell (T g 3 Y) v3).setCell (T g 4 Y) v4).setCell (T g 5 Y) v5):=
 (((((h.setCell b v0).setCell b v1).setCell b v2).setCell b v3).setCell b v4).setCell b v5
def Goes (f:Nat->Ins)(yh:Nat)(m:Mst)(H:Halt):Prop:=(m.t=dk/\∃p k l s,Sim m p k l s/\lW f yh (2001 - k) p k l s=Q H)\/fh m H
def badT:Turn:=⟨ZA,9,⟨#[]⟩,ZA,⟨#[]⟩,0⟩
def oB (f:Nat->Ins)(yh:Nat)(y:Nat->aD)(n:Nat):Turn:=if valid f yh=ZA then badT else if 200<n then badT else if bU y n=ZA then badT else cA f yh y n 2001 0 0 0 []
def pw{f:Nat->Ins}{yh:Nat}{st:Nat}(g:m.t=dk)(b:Sim m p st l s):∃H,Goes f yh m H/\gP l H/\∀y n,eC f yh y n H=cA f yh y n (2001 - st) p st l s:=by obtain⟨H,hH⟩:=sJ f yh (2001 - st) p st l s b.st (by have:=b.st;omega);exact⟨H,.inl ⟨g,p,st,l,s,b,hH⟩,(pr f yh (λ_=>⟨ZA,0,⟨#[]⟩⟩) 0 _ p st l s H b.st rfl hH).2,λy n=>(pr f yh y n _ p st l s H b.st rfl hH).1.c⟩
def xn (b:Nat)(q:ZB)(f:Nat->Ins)(yh:Nat)(m:Mst)(a:Bool)(nm:F_)(s:List F_)(p st l:Nat)(r:aD)(w:E)(hM:MAt w b q m)(ZT:fh m (.inr (a,nm,s,p,st,l)))(hl:1<=l)(ZS:r.H.size<=2000):Calls Pg 159 #[.pointer (Q (T b 0 Y)),ZJ #[ZF r.has,J I r.M,U r.H]] w λe w'=>e=ZI (.tuple #[])/\∃H j,MAt w' b q H/\Goes f yh H j/\gP l j/\(∀y n,l<=n->y (l - 1)=r->eC f yh y n (.inr (a,nm,s,p,st,l))=eC f yh y n j)/\zt b w w':=by
 obtain⟨G,u,hnm,C⟩:=ZT;have x:m.t.ask=a:=by rw[G]
 have ZZ:m.t.e=nm:=by rw[G]
 have hz:m.size<50:=by rw[u.size];exact C
 cases a with
 |false =>refine(zH b q m r.has r.M r.H w hM x hz).P ?_;rintro e w'⟨rfl,g,h⟩;obtain⟨j,B,D,Z8⟩:=pw (f:=f) (yh:=yh) (m:={ m with t:=dk,S:=upd m.S m.size (eU r.has),size:=m.size+1 }) rfl (u.push (eU r.has) (jr _) C);refine⟨rfl,_,j,g,B,D,λy n hn i=>?_,h⟩;rw[Z8 y n];simp only[eC,i];rw[eI (by omega),eT trivial]
 |true =>
  by_cases h1:r.has=ZA;{rw[h1];refine(rH b q m r.M r.H w hM x hz).P ?_;rintro e w'⟨rfl,g,h⟩;refine⟨rfl,_,.inl (4,nm,st),g,.inr ?_,trivial,λy n hn i=>?_,h⟩;{show kK m 4=_;simp only[kK,ZZ,u.hst]};{simp only[eC,i];rw[eI (by omega)];simp[h1]}}
  ·have o:r.has=ZH:=by simpa using h1
   by_cases h2:r.M=0;{rw[o,h2];refine(zI b q m r.H w hM x hz).P ?_;rintro e w'⟨rfl,g,h⟩;obtain⟨j,B,D,Z8⟩:=pw (f:=f) (yh:=yh) (m:={ m with t:=dk,S:=upd m.S m.size r.H,size:=m.size+1 }) rfl (u.push r.H ZS C);refine⟨rfl,_,j,g,B,D,λy n hn i=>?_,h⟩;rw[Z8 y n];simp only[eC,i];rw[eI (by omega)];simp[o,h2]};{rw[o];refine(vb b q m r.M r.H w hM x (by simpa using h2) hz).P ?_;rintro e w'⟨rfl,g,h⟩;refine⟨rfl,_,.inl (5,nm,st),g,.inr ?_,trivial,λy n hn i=>?_,h⟩;{show kK m 5=_;simp only[kK,ZZ,u.hst]};{simp only[eC,i];rw[eI (by omega)];simp[o,h2]}}
def Bv (g f yh j_:Nat)(w:E):Calls Pg 136 #[ZJ #[Z (Q (T g f Y)) yh j_]] w λe w'=>∃b,e=ZI (.func (.func 158) #[] #[.pointer (Q (T b 0 Y))])/\(z (A w))<=b/\MAt w' b (Z (Q (T g f Y)) yh j_) m0/\Below (z (A w)) w w':=by
 have i:=ae ((BS w).alloc ly (N #[Z (Q (T g f Y)) yh j_] 37));have k0:ZW (ZV w (N #[Z (Q (T g f Y)) yh j_] 37)) (T (z (A w)) 0 Y)=Q (Z (Q (T g f Y)) yh j_):=by simp
 have z0:z (A (ZV w (N #[Z (Q (T g f Y)) yh j_] 37)))=z (A w)+1:=by simp
 have j:=ae (vd (ZV w (N #[Z (Q (T g f Y)) yh j_] 37)) (Q (T g f Y)) yh j_);have h:=ae (by have:=j.i;rw[z0] at this;exact this);have l:=ae (i.alloc i.size (N (fD (Z (Q (T g f Y)) yh j_)) 240));go_enter func136,ntmps136
 go_wp2_with (first
  |(refine ve rfl 240 #[(1,.tmp 5)] rfl [(1,Z (Q (T g f Y)) yh j_)] (fD (Z (Q (T g f Y)) yh j_)) (by simp[Act.eval]) (Bu _ _ _) ?_)
  |(refine wpList_store_row rfl 240 (.tmp 3) (.tmp 6) rfl (z (A w)+1) (fD (Z (Q (T g f Y)) yh j_)) rfl rfl _ _ (by rw[<-z0];exact heap_alloc_last _ _) (infoM.k (by rw[jq])) (by rw[jq];rfl) (sK _ _ _) ?_;rw[<-z0,World.setRow_alloc_new])
  |fail)
 go_ret;exact⟨_,rfl,by first|(simp;done)|(simp;omega),h,l⟩
def qD (b o n yh j_:Nat)(f:Nat->Ins)(m:Mst)(H:Halt)(r:aD)(w:E)(hM:MAt w b (Z (Q (T o n Y)) yh j_) m)(ZS:Env w b o n yh f)(hn:m.t.e=⟨#[]⟩)(ZN:yh<=200)(Z8:dn f yh=ZH)(B:Goes f yh m H):Calls Pg 158 #[ZJ #[ZF r.has,J I r.M,U r.H],.pointer (Q (T b 0 Y))] w λe w'=>∃x,e=ZI x.t.v/\MAt w' b (Z (Q (T o n Y)) yh j_) x/\fh x H/\zt b w w':=by
 have D:=hM.lt;have i:=ae ((hM.al (N #[ZF r.has,J I r.M,U r.H] 119)).al (N #[ZF ZA,J I 0,U ⟨#[]⟩,ZF ZA,U ⟨#[]⟩,J I 0] 116));have j:=ae (((zt.refl b w).al (N #[ZF r.has,J I r.M,U r.H] 119)).al (N #[ZF ZA,J I 0,U ⟨#[]⟩,ZF ZA,U ⟨#[]⟩,J I 0] 116));have l:=lm (ZV w (N #[ZF r.has,J I r.M,U r.H] 119)) (ZF ZA) (J I 0) (U ⟨#[]⟩) (ZF ZA) (U ⟨#[]⟩) (J I 0) 116;rw[show(z (A (ZV w (N #[ZF r.has,J I r.M,U r.H] 119))))=z (A w)+1 by simp] at l;have G:=ae l;have HE:=ae ZS;have ZM:=ae B;obtain⟨⟨c5,z5⟩,⟨ZP,ZO⟩,⟨X,ZL⟩,⟨c8,S⟩,⟨K,z9⟩,ZT,L⟩:=i.turn;rw[hn] at K;clear hM ZS B l c5 z5 ZP ZO X ZL c8 S z9 ZT L;go_enter func158,ntmps158;go_wp2_with fail;clear K;generalize World.alloc (World.alloc w _) _=R at i j G ⊢;have hb0:b<z (A R):=i.lt;refine(x9 b o n yh j_ f m H _ i (HE.ac D j) ZN Z8 ZM).P ?_;rintro e V⟨g,rfl,q,p,s⟩;have u:=ae s;clear s;have ZR:=ae (G.ac u (by omega));have hx3:z (A w)+1<z (A V):=ZR.1;have C:=ae q;have ZZ:=ae p;have y:=ae (j.k u);clear q p;obtain⟨⟨v0,P,y0⟩,⟨v1,q1,y1⟩,⟨v2,O,y2⟩,⟨v3,W,y3⟩,⟨v4,q4,y4⟩,⟨v5,M,y5⟩⟩:=bl6 ZR.2;have h:z (A w)+1≠b:=by omega
 have ZQ:=ae ((((((C.other (z (A w)+1) 0 (ZF g.t.K) h).other (z (A w)+1) 1 (J I g.t.M) h).other (z (A w)+1) 2 (U g.t.H) h).other (z (A w)+1) 3 (ZF g.t.ask) h).other (z (A w)+1) 4 (U g.t.e) h).other (z (A w)+1) 5 (J I g.t.j) h);have OO:=ae ((((((y.am (z (A w)+1) 0 (ZF g.t.K) (by omega)).am (z (A w)+1) 1 (J I g.t.M) (by omega)).am (z (A w)+1) 2 (U g.t.H) (by omega)).am (z (A w)+1) 3 (ZF g.t.ask) (by omega)).am (z (A w)+1) 4 (U g.t.e) (by omega)).am (z (A w)+1) 5 (J I g.t.j) (by omega));simp only[Turn.v];go_wp2;exact bp (v:=g.t.v) (by simp[results,results158,go_sem,Turn.v,P,q1,O,W,q4,M]) rfl ⟨g,rfl,ZQ,ZZ,OO⟩
def sL (b ZZ x yh j_:Nat)(f:Nat->Ins)(m:Mst)(a:Bool)(nm:F_)(s:List F_)(p st l:Nat)(r:aD)(w:E)(hM:MAt w b (Z (Q (T ZZ x Y)) yh j_) m)(V:Env w b ZZ x yh f)(Z8:fh m (.inr (a,nm,s,p,st,l)))(hl:1<=l)(hr:r.H.size<=2000)(hc:yh<=200)(ZM:dn f yh=ZH):Calls Pg 158 #[ZJ #[ZF r.has,J I r.M,U r.H],.pointer (Q (T b 0 Y))] w λe w'=>∃ZQ o,e=ZI ZQ.t.v/\MAt w' b (Z (Q (T ZZ x Y)) yh j_) ZQ/\fh ZQ o/\gP l o/\(∀y n,l<=n->y (l - 1)=r->eC f yh y n (.inr (a,nm,s,p,st,l))=eC f yh y n o)/\zt b w w':=by
 have aq:=hM.lt;have j:=ae ((hM.al (N #[ZF r.has,J I r.M,U r.H] 119)).al (N #[ZF ZA,J I 0,U ⟨#[]⟩,ZF ZA,U ⟨#[]⟩,J I 0] 116));have u:=ae (((zt.refl b w).al (N #[ZF r.has,J I r.M,U r.H] 119)).al (N #[ZF ZA,J I 0,U ⟨#[]⟩,ZF ZA,U ⟨#[]⟩,J I 0] 116));have q:=lm (ZV w (N #[ZF r.has,J I r.M,U r.H] 119)) (ZF ZA) (J I 0) (U ⟨#[]⟩) (ZF ZA) (U ⟨#[]⟩) (J I 0) 116;rw[show(z (A (ZV w (N #[ZF r.has,J I r.M,U r.H] 119))))=z (A w)+1 by simp] at q;have X0:=ae q;have HE:=ae V;have HS:=ae Z8;have L:m.t.e=nm:=by have:=Z8.1;rw[this]
 have i:nm.toList.isEmpty=ZA:=by
  have hn:=Z8.2.2.1;have h0:¬ nm.size=0:=by simp only[aA,j6,nD] at hn;omega
  have:=mX h0;cases h:nm.toList with
  |nil=>exact absurd h this
  |cons _ _=>rfl
 obtain⟨⟨c5,z5⟩,⟨c6,z6⟩,⟨c7,z7⟩,⟨c8,z8⟩,⟨c9,z9⟩,ZP,P⟩:=j.turn;rw[L] at c9;clear hM V Z8 q L c5 z5 c6 z6 c7 z7 c8 z8 z9 ZP P;go_enter func158,ntmps158;go_wp2_with fail;clear c9 i;generalize World.alloc (World.alloc w _) _=W0 at j u X0 ⊢;have hb0:b<z (A W0):=j.lt;refine(xn b (Z (Q (T ZZ x Y)) yh j_) f yh m a nm s p st l r _ j HS hl hr).P ?_;rintro e w1⟨rfl,m1,o,ZT,K,D,C,M⟩;have W:=ae ZT;have R:=ae K;have ZN:=ae D;have ZL:=ae C;have B:=ae M;clear ZT K D C M;go_wp2_with fail;refine(x9 b ZZ x yh j_ f m1 o _ W (HE.ac aq (u.k B)) hc ZM R).P ?_;rintro e w3⟨g,rfl,G,ZR,H⟩;have ZS:=ae (B.k H);clear H;have O:=ae (X0.ac ZS (by omega));have hx3:z (A w)+1<z (A w3):=O.1;have S:=ae G;have X:=ae ZR;have ZO:=ae (u.k ZS);clear G ZR;obtain⟨⟨v0,q0,y0⟩,⟨v1,q1,y1⟩,⟨v2,q2,y2⟩,⟨v3,q3,y3⟩,⟨v4,q4,y4⟩,⟨v5,q5,y5⟩⟩:=bl6 O.2;have i:z (A w)+1≠b:=by omega
 have MM:=ae ((((((S.other (z (A w)+1) 0 (ZF g.t.K) i).other (z (A w)+1) 1 (J I g.t.M) i).other (z (A w)+1) 2 (U g.t.H) i).other (z (A w)+1) 3 (ZF g.t.ask) i).other (z (A w)+1) 4 (U g.t.e) i).other (z (A w)+1) 5 (J I g.t.j) i);have OO:=ae ((((((ZO.am (z (A w)+1) 0 (ZF g.t.K) (by omega)).am (z (A w)+1) 1 (J I g.t.M) (by omega)).am (z (A w)+1) 2 (U g.t.H) (by omega)).am (z (A w)+1) 3 (ZF g.t.ask) (by omega)).am (z (A w)+1) 4 (U g.t.e) (by omega)).am (z (A w)+1) 5 (J I g.t.j) (by omega));simp only[Turn.v];go_wp2;exact bp (v:=g.t.v) (by simp[results,results158,go_sem,Turn.v,q0,q1,q2,q3,q4,q5]) rfl ⟨g,o,rfl,MM,X,ZN,ZL,OO⟩
def oP{f:Nat->Ins}{yh i:Nat}(b:fh m H)(hL:gP i H):eC f yh y i H=m.t:=by
 rcases H with⟨c,x,k⟩|⟨a,nm,s,p,k,l⟩
 {exact(show m.t=⟨ZH,c,x,ZA,⟨#[]⟩,k⟩ from b).c};{have g:l=i+1:=hL;subst g;simp only[eC,QS];rw[eT ly ];exact b.1.c}
def oQ (f:fh m H)(b:m.t.K=ZA):∃a nm s p k l,H=.inr (a,nm,s,p,k,l):=by
 rcases H with⟨c,x,k⟩|⟨a,nm,s,p,k,l⟩
 {have:m.t=⟨ZH,c,x,ZA,⟨#[]⟩,k⟩:=f;rw[this] at b;simp at b};{exact⟨a,nm,s,p,k,l,rfl⟩}
def TurnBox (w:E)(g:Nat)(t:Turn):Prop:=g<z (A w)/\(ZW w (T g 0 Y)=Q (ZF t.K)/\ZW w (T g 1 Y)=Q (J I t.M)/\ZW w (T g 2 Y)=Q (U t.H)/\ZW w (T g 3 Y)=Q (ZF t.ask)/\ZW w (T g 4 Y)=Q (U t.e)/\ZW w (T g 5 Y)=Q (J I t.j))/\∀j,ZX w (T g j Y)=ZA
def TurnBox.aa{B:Nat}(h:TurnBox w g t)(hb:Below B w w')(b:g<B):TurnBox w' g t:=by obtain⟨h1,⟨c0,c1,c2,c3,c4,c5⟩,hz⟩:=h;exact⟨lj h1 hb.size,⟨(hb.O (p:=(T g _ Y)) b).k c0,(hb.O (p:=(T g _ Y)) b).k c1,(hb.O (p:=(T g _ Y)) b).k c2,(hb.O (p:=(T g _ Y)) b).k c3,(hb.O (p:=(T g _ Y)) b).k c4,(hb.O (p:=(T g _ Y)) b).k c5⟩,λj=>(hb.frozen (p:=(T g j Y)) b).k (hz j)⟩
def TurnBox.ac (h:TurnBox w g t)(f:zt b w w')(i:g≠b):TurnBox w' g t:=by obtain⟨h1,⟨c0,c1,c2,c3,c4,c5⟩,hz⟩:=h;exact⟨lj h1 f.size,⟨(f.O g _ h1 i).k c0,(f.O g _ h1 i).k c1,(f.O g _ h1 i).k c2,(f.O g _ h1 i).k c3,(f.O g _ h1 i).k c4,(f.O g _ h1 i).k c5⟩,λj=>(f.frozen g j h1 i).k (hz j)⟩
def E7 (w:E)(t:Turn)(ty:ZK):TurnBox (ZV w (N #[ZF t.K,J I t.M,U t.H,ZF t.ask,U t.e,J I t.j] ty)) (z (A w)) t:=
 ⟨by simp,⟨by simp,by simp,by simp,by simp,by simp,by simp⟩,λj=>by simp⟩
def fY (w:E)(g:Nat)(t:Turn):E:=(((((w.setCell (T g 0 Y) (ZF t.K)).setCell (T g 1 Y) (J I t.M)).setCell (T g 2 Y) (U t.H)).setCell (T g 3 Y) (ZF t.ask)).setCell (T g 4 Y) (U t.e)).setCell (T g 5 Y) (J I t.j)
def Hk{u:Turn}(t:Turn)(h:TurnBox w g u):TurnBox (fY w g t) g t:=by obtain⟨h1,⟨c0,c1,c2,c3,c4,c5⟩,hz⟩:=h;refine⟨by simpa[fY] using h1,⟨?_,?_,?_,?_,?_,?_⟩,λj=>by simpa[fY] using hz j⟩;all_goals simp[fY,go_sem,c0,c1,c2,c3,c4,c5]
def vf (t:Turn):zt g w (fY w g t):=ce (ce (ce (ce (ce (ce (zt.refl g w) 0 _) 1 _) 2 _) 3 _) 4 _) 5 _
def MAt.boxed{i:ZB}(h:MAt w b i m)(f:g≠b)(t:Turn):MAt (fY w g t) b i m:=
 (((((h.other g 0 (ZF t.K) f).other g 1 (J I t.M) f).other g 2 (U t.H) f).other g 3 (ZF t.ask) f).other g 4 (U t.e) f).other g 5 (J I t.j) f
abbrev ec (at_:Int)(sv:ZB)(st lk:Int)(f:Bool)(c:Int)(x:F_)(ask:Bool)(nm:F_)(b:Bool):ZB:=
 ZJ #[J I at_,sv,J I st,J I lk,ZF f,J I c,U x,ZF ask,U nm,ZF b]
def dS{B:Nat}(h:Below B u w)(b:B<=g)(v0 v1 v2 v3 v4 v5 v6 v7 v8 v9:ZB):Below B u ((((((((((w.setCell (T g 0 Y) v0).setCell (T g 1 Y) v1).setCell (T g 2 Y) v2).setCell (T g 3 Y) v3).setCell (T g 4 Y) v4).setCell (T g 5 Y) v5).setCell (T g 6 Y) v6).setCell (T g 7 Y) v7).setCell (T g 8 Y) v8).setCell (T g 9 Y) v9):=
 (((((((((h.setCell b v0).setCell b v1).setCell b v2).setCell b v3).setCell b v4).setCell b v5).setCell b v6).setCell b v7).setCell b v8).setCell b v9
def fN (at_:Int)(a:O_)(n j_:Nat)(st lk:Int)(f:Bool)(c0:Int)(g:F_)(ask:Bool)(nm:F_)(b:Bool)(c:Int)(x:F_)(w:E):Calls Pg 141 #[ec at_ (Z a n j_) st lk f c0 g ask nm b,J I c,U x] w λe w'=>e=ZI (ec at_ (Z a n j_) st lk ZH c x ask nm b)/\Below (z (A w)) w w':=by go_enter func141,ntmps141;go_wp2;refine bp (v:=ec at_ (Z a n j_) st lk ZH c x ask nm b) (by simp[results,results141,go_sem]) rfl ⟨rfl,(br.alloc ly _).alloc (by simp) _⟩
def xo (op:Nat)(w:E)(h1:1<=op)(h15:op<=15):Calls Pg 142 #[J I op] w λe w'=>e=ZI (.tuple #[J I (aX op),J I (bN op)])/\w'=w:=by
 rcases(show op=1\/op=2\/op=3\/op=4\/op=5\/op=6\/op=7\/op=8\/op=9\/op=10\/op=11\/op=12\/op=13\/op=14\/op=15 by omega) with rfl|rfl|rfl|rfl|rfl|rfl|rfl|rfl|rfl|rfl|rfl|rfl|rfl|rfl|rfl;all_goals
  go_enter func142,ntmps142;go_wp2;refine bp (v:=.tuple #[J I (aX _),J I (bN _)]) (by simp[results,results142,go_sem,aX,bN]) rfl ⟨rfl,rfl⟩
def cB (op n:Nat)(t a b:F_):List F_:=
 match op with
 |1=>[t]
 |2=>[b++a]
 |3=>[if n<a.size then a.extract 0 n else a]
 |4=>[if n<a.size then a.extract n a.size else ⟨#[]⟩]
 |5=>[fV a n]
 |6=>[eU (a.toList == b.toList)]
 |7=>[a,a]
 |8=>[a,b]
 |_=>[]
def nI (w:E)(x:F_)(g:Nat)(b:g=z (A w)):RowStr (ZV w (N #[U x] 9)) g 0 1 (λi=>[x].getD i ⟨#[]⟩):=by
 subst b
 exact⟨by simp,λi hi=>by
  obtain rfl:i=0:=by omega
  simp⟩
def IU (w:E)(x y:F_)(g:Nat)(b:g=z (A w)):RowStr (ZV w (N #[U x,U y] 9)) g 0 2 (λi=>[x,y].getD i ⟨#[]⟩):=by subst b;exact⟨by simp,λi hi=>by rcases(show i=0\/i=1 by omega) with rfl|rfl<;>simp⟩
def xp (op n:Nat)(t a b:F_)(w:E)(h1:1<=op)(h8:op<=8)(m:a.size<=2000)(hb:b.size<=2000)(hn:n<=2000):Calls Pg 144 #[ZJ #[J I op,U t,J I n],U a,U b] w λe w'=>∃g,e=ZI (Z (Q (T g 0 Y)) (cB op n t a b).length (cB op n t a b).length)/\RowStr w' g 0 (cB op n t a b).length (λi=>(cB op n t a b).getD i ⟨#[]⟩)/\(z (A w))<=g/\Below (z (A w)) w w':=by
 have f:=ae ((BS w).alloc ly (N #[J I op,U t,J I n] 102));rcases(show op=1\/op=2\/op=3\/op=4\/op=5\/op=6\/op=7\/op=8 by omega) with rfl|rfl|rfl|rfl|rfl|rfl|rfl|rfl;{go_enter RJ,QV;go_wp2;go_ret;exact⟨_,rfl,nI _ t _ (by simp),by simp,f.alloc (by simp) _⟩};{go_enter RJ,QV;go_wp2;go_ret;exact⟨_,rfl,nI _ (b++a) _ (by simp),by simp,f.alloc (by simp) _⟩}
 ·by_cases h:(n:Int)<a.size
  ·have e:cB 3 n t a b=[a.extract 0 n]:=by simp[cB];omega
   rw[e];clear e;go_enter RJ,QV;go_wp2;go_ret;exact⟨_,rfl,nI _ _ _ (by simp),by simp,f.alloc (by simp) _⟩
  ·have e:cB 3 n t a b=[a]:=by simp[cB];omega
   rw[e];clear e;go_enter RJ,QV;go_wp2;go_ret;exact⟨_,rfl,nI _ _ _ (by simp),by simp,f.alloc (by simp) _⟩
 ·by_cases h:(n:Int)<a.size
  ·have e:cB 4 n t a b=[a.extract n a.size]:=by simp[cB];omega
   rw[e];clear e;go_enter RJ,QV;go_wp2;go_ret;exact⟨_,rfl,nI _ _ _ (by simp),by simp,f.alloc (by simp) _⟩
  ·have e:cB 4 n t a b=[⟨#[]⟩]:=by simp[cB];omega
   rw[e];clear e;go_enter RJ,QV;go_wp2;go_ret;exact⟨_,rfl,nI _ _ _ (by simp),by simp,f.alloc (by simp) _⟩
 {go_enter RJ,QV;go_wp2_with fail;refine(xh a n _ m hn).P ?_;rintro e o⟨rfl,j⟩;have l:=ae (f.k (j.P (by simp)));clear j;go_wp2;go_ret;exact⟨_,rfl,nI _ (fV a n) _ rfl,l.size,l.alloc l.size _⟩};{go_enter RJ,QV;go_wp2_with fail;refine(qx _ _).P ?_;rintro e o⟨rfl,rfl⟩;go_wp2;go_ret;exact⟨_,rfl,nI _ (eU (a.toList == b.toList)) _ (by simp),by simp,f.alloc (by simp) _⟩};{go_enter RJ,QV;go_wp2;go_ret;exact⟨_,rfl,IU _ a a _ (by simp),by simp,f.alloc (by simp) _⟩};{go_enter RJ,QV;go_wp2;go_ret;exact⟨_,rfl,IU _ a b _ (by simp),by simp,f.alloc (by simp) _⟩}
def Ten (w:E)(g:Nat)(v0 v1 v2 v3 v4 v5 v6 v7 v8 v9:ZB):Prop:=g<z (A w)/\(ZW w (T g 0 Y)=Q v0/\ZX w (T g 0 Y)=ZA)/\(ZW w (T g 1 Y)=Q v1/\ZX w (T g 1 Y)=ZA)/\(ZW w (T g 2 Y)=Q v2/\ZX w (T g 2 Y)=ZA)/\(ZW w (T g 3 Y)=Q v3/\ZX w (T g 3 Y)=ZA)/\(ZW w (T g 4 Y)=Q v4/\ZX w (T g 4 Y)=ZA)/\(ZW w (T g 5 Y)=Q v5/\ZX w (T g 5 Y)=ZA)/\(ZW w (T g 6 Y)=Q v6/\ZX w (T g 6 Y)=ZA)/\(ZW w (T g 7 Y)=Q v7/\ZX w (T g 7 Y)=ZA)/\(ZW w (T g 8 Y)=Q v8/\ZX w (T g 8 Y)=ZA)/\(ZW w (T g 9 Y)=Q v9/\ZX w (T g 9 Y)=ZA)
section
variable {w w':E}{g:Nat}{v0 v1 v2 v3 v4 v5 v6 v7 v8 v9:ZB}
def Ten.of_block (h:Ten w g v0 v1 v2 v3 v4 v5 v6 v7 v8 v9)(hz:z (A w)<=z (A w'))(hb:w'.heap[g]?=w.heap[g]?):Ten w' g v0 v1 v2 v3 v4 v5 v6 v7 v8 v9:=by have f:∀o,ZW w' (T g o Y)=ZW w (T g o Y):=λo=>cq (a:=(T g o Y)) hb;have b:∀o,ZX w' (T g o Y)=ZX w (T g o Y):=λo=>NG (a:=(T g o Y)) hb;unfold Ten at h ⊢;simp only[f,b];exact⟨lj h.1 hz,h.2⟩
def Ten.aa{B:Nat}(h:Ten w g v0 v1 v2 v3 v4 v5 v6 v7 v8 v9)(hb:Below B w w')(b:g<B):Ten w' g v0 v1 v2 v3 v4 v5 v6 v7 v8 v9:=h.of_block hb.size (hb.p g b)
def Ten.grown{row:Option Nat}(h:Ten w g v0 v1 v2 v3 v4 v5 v6 v7 v8 v9)(hb:w.grownBy w' row)(b:Q g≠row):Ten w' g v0 v1 v2 v3 v4 v5 v6 v7 v8 v9:=h.of_block hb.size (hb.p g h.1 b)
def Ten.al (h:Ten w g v0 v1 v2 v3 v4 v5 v6 v7 v8 v9)(o:Obj):Ten (w.alloc o) g v0 v1 v2 v3 v4 v5 v6 v7 v8 v9:=h.aa ((BS w).alloc ly o) h.1
def Ten.other (h:Ten w g v0 v1 v2 v3 v4 v5 v6 v7 v8 v9)(p:Addr)(u:ZB)(b:p.block≠g):Ten (w.setCell p u) g v0 v1 v2 v3 v4 v5 v6 v7 v8 v9:=h.of_block (by simp) (qh w p u g (λe=>b e.c))
end
def lp (w:E)(v0 v1 v2 v3 v4 v5 v6 v7 v8 v9:ZB)(t:ZK)(g:Nat)(b:g=z (A w)):Ten (ZV w (N #[v0,v1,v2,v3,v4,v5,v6,v7,v8,v9] t)) g v0 v1 v2 v3 v4 v5 v6 v7 v8 v9:=by subst b;simp[Ten]
section
variable {w:E}{g:Nat}{v0 v1 v2 v3 v4 v5 v6 v7 v8 v9:ZB}
def Ten.sets (h:Ten w g v0 v1 v2 v3 v4 v5 v6 v7 v8 v9)(u:ZB):Ten (w.setCell (T g 0 Y) u) g u v1 v2 v3 v4 v5 v6 v7 v8 v9/\Ten (w.setCell (T g 1 Y) u) g v0 u v2 v3 v4 v5 v6 v7 v8 v9/\Ten (w.setCell (T g 2 Y) u) g v0 v1 u v3 v4 v5 v6 v7 v8 v9/\Ten (w.setCell (T g 3 Y) u) g v0 v1 v2 u v4 v5 v6 v7 v8 v9/\Ten (w.setCell (T g 4 Y) u) g v0 v1 v2 v3 u v5 v6 v7 v8 v9/\Ten (w.setCell (T g 5 Y) u) g v0 v1 v2 v3 v4 u v6 v7 v8 v9/\Ten (w.setCell (T g 6 Y) u) g v0 v1 v2 v3 v4 v5 u v7 v8 v9/\Ten (w.setCell (T g 7 Y) u) g v0 v1 v2 v3 v4 v5 v6 u v8 v9/\Ten (w.setCell (T g 8 Y) u) g v0 v1 v2 v3 v4 v5 v6 v7 u v9/\Ten (w.setCell (T g 9 Y) u) g v0 v1 v2 v3 v4 v5 v6 v7 v8 u:=by have o:∀i j:Nat,i≠j->(w.setCell (T g i Y) u).cell? (T g j Y)=ZW w (T g j Y):=λi j hij=>sq _ _ _ _ (by simp);have s:∀i v,ZW w (T g i Y)=Q v->(w.setCell (T g i Y) u).cell? (T g i Y)=Q u:=λi v e=>BO _ _ _ (by rw[e];rfl);obtain⟨H,⟨m,Z8⟩,⟨f,ZS⟩,⟨r,ZZ⟩,⟨n,ZT⟩,⟨t,C⟩,⟨q,y⟩,⟨l,D⟩,⟨x,G⟩,⟨p,B⟩,b,ZR⟩:=h;simp[Ten,o,H,s _ _ m,s _ _ f,s _ _ r,s _ _ n,s _ _ t,s _ _ q,s _ _ l,s _ _ x,s _ _ p,s _ _ b,m,f,r,n,t,q,l,x,p,b,Z8,ZS,ZZ,ZT,C,y,D,G,B,ZR]
def Ten.set0 (h:Ten w g v0 v1 v2 v3 v4 v5 v6 v7 v8 v9)(u:ZB):Ten (w.setCell (T g 0 Y) u) g u v1 v2 v3 v4 v5 v6 v7 v8 v9:=(h.sets u).1
def Ten.set1 (h:Ten w g v0 v1 v2 v3 v4 v5 v6 v7 v8 v9)(u:ZB):Ten (w.setCell (T g 1 Y) u) g v0 u v2 v3 v4 v5 v6 v7 v8 v9:=(h.sets u).2.1
def Ten.set2 (h:Ten w g v0 v1 v2 v3 v4 v5 v6 v7 v8 v9)(u:ZB):Ten (w.setCell (T g 2 Y) u) g v0 v1 u v3 v4 v5 v6 v7 v8 v9:=(h.sets u).2.2.1
def Ten.set3 (h:Ten w g v0 v1 v2 v3 v4 v5 v6 v7 v8 v9)(u:ZB):Ten (w.setCell (T g 3 Y) u) g v0 v1 v2 u v4 v5 v6 v7 v8 v9:=(h.sets u).2.2.2.1
def Ten.set4 (h:Ten w g v0 v1 v2 v3 v4 v5 v6 v7 v8 v9)(u:ZB):Ten (w.setCell (T g 4 Y) u) g v0 v1 v2 v3 u v5 v6 v7 v8 v9:=(h.sets u).2.2.2.2.1
def Ten.set5 (h:Ten w g v0 v1 v2 v3 v4 v5 v6 v7 v8 v9)(u:ZB):Ten (w.setCell (T g 5 Y) u) g v0 v1 v2 v3 v4 u v6 v7 v8 v9:=(h.sets u).2.2.2.2.2.1
def Ten.set6 (h:Ten w g v0 v1 v2 v3 v4 v5 v6 v7 v8 v9)(u:ZB):Ten (w.setCell (T g 6 Y) u) g v0 v1 v2 v3 v4 v5 u v7 v8 v9:=(h.sets u).2.2.2.2.2.2.1
def Ten.set7 (h:Ten w g v0 v1 v2 v3 v4 v5 v6 v7 v8 v9)(u:ZB):Ten (w.setCell (T g 7 Y) u) g v0 v1 v2 v3 v4 v5 v6 u v8 v9:=(h.sets u).2.2.2.2.2.2.2.1
def Ten.set8 (h:Ten w g v0 v1 v2 v3 v4 v5 v6 v7 v8 v9)(u:ZB):Ten (w.setCell (T g 8 Y) u) g v0 v1 v2 v3 v4 v5 v6 v7 u v9:=(h.sets u).2.2.2.2.2.2.2.2.1
def Ten.set9 (h:Ten w g v0 v1 v2 v3 v4 v5 v6 v7 v8 v9)(u:ZB):Ten (w.setCell (T g 9 Y) u) g v0 v1 v2 v3 v4 v5 v6 v7 v8 u:=(h.sets u).2.2.2.2.2.2.2.2.2
end
def IW (w:E)(b:Array ZB)(ty:ZK)(R ZL:Obj)(j:Nat)(v:ZB)(f:b[j]?=Q v):(((w.alloc (N b ty)).alloc R).alloc ZL).cell? (T (z (A w)) j Y)=Q v:=by rw[(((a8 (w.alloc (N b ty)).heap.size _).alloc ly R).alloc (by simp) ZL).O (p:=(T (z (A w)) j Y)) (by simp)];simp[f]
abbrev SO:=(Nat × Nat × Nat × List F_) ⊕ (Int × F_ × Nat) ⊕ (Bool × F_ × Nat)
abbrev strs (s:List F_):List ZB:=s.reverse.map Value.string
def SoIs (w:E)(base:Nat)(v:ZB):SO->Prop
 |.inl (p,st,l,s)=>∃a j_,v=ec p (Z a (ZU s) j_) st l ZA 0 ⟨#[]⟩ ZA ⟨#[]⟩ ZA/\ZY w base 9 1 (Z a (ZU s) j_) (ZU s) (strs s)
 |.inr (.inl (c,x,st))=>∃(at_:Int) (a:O_) (n j_:Nat) (lk:Int),v=ec at_ (Z a n j_) st lk ZH c x ZA ⟨#[]⟩ ZA
 |.inr (.inr (ask,nm,st))=>∃(at_:Int) (a:O_) (n j_:Nat) (lk:Int),v=ec at_ (Z a n j_) st lk ZA 0 ⟨#[]⟩ ask nm ZH
def SoIs.kept{v:ZB}{r:SO}(h:SoIs w base v r)(hb:Below (z (A w)) w w')(g:b<=base):SoIs w' b v r:=by
 rcases r with⟨p,st,l,s⟩|⟨c,x,st⟩|⟨ask,nm,st⟩
 {obtain⟨a,j_,e,f⟩:=h;exact⟨a,j_,e,aE (K_ f hb ly) g⟩};{exact h};{exact h}
def Bw{k:Nat}{s0:F_}{i:Int}{b:List ZB}(h:ZY w base e 1 (Z (Q (T g 0 Y)) n j_) n b)(j:b[0]?=Q (U s0))(f:ZW w (T k 0 Y)=Q (J I i)):k≠g:=by rintro rfl;have:=h.cells (g:=k) rfl 0 _ j;simp[Addr.add] at this;rw[f] at this;simp at this
def gQ (x:F_)(s:List F_):strs (x::s)=strs s++[U x]:=by simp[strs]
def yc:∃s0,(strs s++[Value.string x])[0]?=Q (U s0):=by
 rw[<-gQ];simp only[strs,L8,RH];have h:0<(x::s).reverse.length:=by simp
 exact⟨_,_,gq h,rfl⟩
def dT{b:List ZB}(h:ZY w base e 1 (Z (Q (T g 0 Y)) n j_) n b){k:Nat}(f:k≠g)(u:ZB)(j:Nat):(w.setCell (T k j Y) u).ownsRow base e 1 (Z (Q (T g 0 Y)) n j_) n b:=
 WG h (by simp[Value.ownBlock];exact λe=>f e.c) u
def E9{f:List ZB}(h:ZY w base e 1 (Z (Q (T g 0 Y)) n j_) n f){k:Nat}(b:k≠g)(v0 v1 v2 v3 v4 v5 v6 v7 v8 v9:ZB):World.ownsRow ((((((((((w.setCell (T k 0 Y) v0).setCell (T k 1 Y) v1).setCell (T k 2 Y) v2).setCell (T k 3 Y) v3).setCell (T k 4 Y) v4).setCell (T k 5 Y) v5).setCell (T k 6 Y) v6).setCell (T k 7 Y) v7).setCell (T k 8 Y) v8).setCell (T k 9 Y) v9) base e 1 (Z (Q (T g 0 Y)) n j_) n f:=
 dT (dT (dT (dT (dT (dT (dT (dT (dT (dT h b v0 0) b v1 1) b v2 2) b v3 3) b v4 4) b v5 5) b v6 6) b v7 7) b v8 8) b v9 9
def kj (y:Nat->aD)(n:Nat)(a:Bool)(nm:F_)(s:List F_)(p st l:Nat):SO:=
 if n<=l then .inr (.inr (a,nm,st)) else if a=ZA then .inl (p,st,(l+1),(eU (y l).has::s)) else if (y l).has=ZA then .inr (.inl (4,nm,st))
 else if (y l).M=0 then .inl (p,st,(l+1),((y l).H::s)) else .inr (.inl (5,nm,st))
def jR (y:Nat->aD)(n op:Nat)(pl nm:F_)(s:List F_)(p st l:Nat):SO:=
 if aA nm=ZA then .inr (.inl (2,pl,st)) else if l=200 then .inr (.inl (3,⟨#[]⟩,st)) else kj y n ((op:Int) == 12) nm s p st l
def Bz{pl nm:F_}{st:Nat}{b:SO}(h:b=jR y n op pl nm s p st l)(j:op=12\/op=13):(aA nm=ZA/\b=.inr (.inl (2,pl,st)))\/(aA nm=ZH/\((l:Int) == 200)=ZH/\b=.inr (.inl (3,⟨#[]⟩,st))) \/
  (aA nm=ZH/\((l:Int) == 200)=ZA/\((n<=l/\b=.inr (.inr (((op:Int) == 12),nm,st)))\/(l<n/\((op=13/\b=.inl (p,st,(l+1),(eU (y l).has::s)))\/(op=12/\(((y l).has=ZA/\b=.inr (.inl (4,nm,st)))\/((y l).has=ZH/\(((y l).M=0/\b=.inl (p,st,(l+1),((y l).H::s)))\/(((y l).M == 0)=ZA/\b=.inr (.inl (5,nm,st))))))))))):=by
 unfold jR kj at h;by_cases h1:aA nm=ZA;{rw[eT h1] at h;exact .inl ⟨h1,h⟩};rw[eI h1] at h;have h1:aA nm=ZH:=by simpa using h1
 by_cases h2:l=200;{rw[eT h2] at h;exact .inr (.inl ⟨h1,by simp;omega,h⟩)};rw[eI h2] at h;refine .inr (.inr ⟨h1,by simp;omega,?_⟩);by_cases i:n<=l;{rw[eT i] at h;exact .inl ⟨i,h⟩};rw[eI i] at h;refine .inr ⟨by omega,?_⟩;rcases j with rfl|rfl;{rw[eI (by simp)] at h;by_cases f:(y l).has=ZA;{rw[eT f] at h;exact .inr ⟨rfl,.inl ⟨f,h⟩⟩};rw[eI f] at h;by_cases g:(y l).M=0;{rw[eT g] at h;exact .inr ⟨rfl,.inr ⟨by simpa using f,.inl ⟨g,h⟩⟩⟩};rw[eI g] at h;exact .inr ⟨rfl,.inr ⟨by simpa using f,.inr ⟨by simpa using g,h⟩⟩⟩};{rw[eT (by simp)] at h;exact .inl ⟨rfl,h⟩}
structure LkS (w:E)(op:Int)(base:Nat)(a:O_)(j_:Nat)(s:List F_)(p st lk:Int)(V:E):Prop where
 run:Ten V (z (A w)+1) (J I p) (Z a (ZU s) j_) (J I st) (J I lk) (ZF ZA) (J I 0) (U ⟨#[]⟩) (ZF ZA) (U ⟨#[]⟩) (ZF ZA)
 zer:Ten V (z (A w)+1+1) (J I 0) (Z Y 0 0) (J I 0) (J I 0) (ZF ZA) (J I 0) (U ⟨#[]⟩) (ZF ZA) (U ⟨#[]⟩) (ZF ZA)
 bl:Below (z (A w)) w V
 u:ZY V base 9 1 (Z a (ZU s) j_) (ZU s) (strs s)
 ne:∀k,z (A w)<=k->Value.ownBlock (Z a (ZU s) j_)≠Q k
 arg:ZW V (T (z (A w)) 0 Y)=Q (J I op)
section
variable {w V ZN:E}{base j_:Nat}{a:O_}{s:List F_}{op p st lk:Int}
def LkS.aa (h:LkS w op base a j_ s p st lk V)(b:Below (z (A V)) V ZN):LkS w op base a j_ s p st lk ZN:=
 ⟨h.run.aa b h.run.1,h.zer.aa b h.zer.1,h.bl.k (b.P h.bl.size),K_ h.u b ly,h.ne,(b.O (p:=(T (z (A w)) 0 Y)) (by have:=h.run.1;show (z (A w))<_;omega)).k h.arg⟩
def LkS.next (h:LkS w op base a j_ s p st lk V)(q:Int):LkS w op base a j_ s p st q (V.setCell (T (z (A w)+1) 3 Y) (J I q)):=
 ⟨h.run.set3 _,h.zer.other _ _ (by simp),h.bl.setCell (p:=(T (z (A w)+1) 3 Y)) (by simp) _,WG h.u (a:=(T (z (A w)+1) 3 Y)) (h.ne _ (by simp)) _,h.ne,(sq _ _ _ _ (by simp)).k h.arg⟩
def LkS.al (h:LkS w op base a j_ s p st lk V)(o:Obj):LkS w op base a j_ s p st lk (V.alloc o):=h.aa (br.alloc ly o)
def LkS.drew (h:LkS w op base a j_ s p st lk V):LkS w op base a j_ s p st lk V.drew:=h.aa br.drew
def LkS.grown (h:LkS w op base a j_ s p st lk V)(b:V.grownBy ZN (Value.slice a (ZU s) j_).ownBlock)(hb:base<=z (A w)):Ten ZN (z (A w)+1) (J I p) (Z a (ZU s) j_) (J I st) (J I lk) (ZF ZA) (J I 0) (U ⟨#[]⟩) (ZF ZA) (U ⟨#[]⟩) (ZF ZA)/\Ten ZN (z (A w)+1+1) (J I 0) (Z Y 0 0) (J I 0) (J I 0) (ZF ZA) (J I 0) (U ⟨#[]⟩) (ZF ZA) (U ⟨#[]⟩) (ZF ZA)/\Below base w ZN:=
 ⟨h.run.grown b λe=>h.ne _ (by omega) e.c,h.zer.grown b λe=>h.ne _ (by omega) e.c,bg (h.bl.P hb) b (nX hb h.bl.size) λk e=>(h.u.lt k e).1⟩
end
def zJ (op:Nat)(t:F_)(k:Int)(p st l:Nat)(a:O_)(j_:Nat)(s:List F_)(nm pl:F_)(b2 o2 n aq base:Nat)(y:Nat->aD)(w:E)
  (hY:RowReply w b2 o2 n y) (M:ZY w base 9 1 (Z a (ZU s) j_) (ZU s) (strs s)) (hb:base<=z (A w)) (ex:op=12\/op=13) (hl:l<=200) (hs:ZU s<=50) :
  Calls Pg 143 #[ZJ #[J I op,U t,J I k],ec p (Z a (ZU s) j_) st l ZA 0 ⟨#[]⟩ ZA ⟨#[]⟩ ZA,U nm,U pl,Z (Q (T b2 o2 Y)) n aq] w λe w'=>∃v,e=ZI v/\SoIs w' base v (jR y n op pl nm s p st l)/\Below base w w':=by
 obtain⟨so,ZZ⟩:∃so,so=jR y n op pl nm s p st l:=⟨_,rfl⟩
 rw[<-ZZ];have HQ:=ae (Bz ZZ ex);have HY:=ae hY;have A0:=ae ((((BS w).alloc ly (N #[J I op,U t,J I k] 102)).alloc (by simp) (N #[J I p,Z a (ZU s) j_,J I st,J I l,ZF ZA,J I 0,U ⟨#[]⟩,ZF ZA,U ⟨#[]⟩,ZF ZA] 170)).alloc (by simp<;>omega) (N #[J I 0,Z Y 0 0,J I 0,J I 0,ZF ZA,J I 0,U ⟨#[]⟩,ZF ZA,U ⟨#[]⟩,ZF ZA] 170));have C:=ae (LkS.mk (p:=p) (st:=st) (lk:=l) ((lp (ZV w (N #[J I op,U t,J I k] 102)) _ _ _ _ _ _ _ _ _ _ 170 (z (A w)+1) (by simp)).al _) (lp _ _ _ _ _ _ _ _ _ _ _ 170 (z (A w)+1+1) (by simp)) A0.i (K_ M A0 ly) (λk hk e=>by have:=(M.lt k e).2;omega) (IW w #[J I op,U t,J I k] 102 (N #[J I p,Z a (ZU s) j_,J I st,J I l,ZF ZA,J I 0,U ⟨#[]⟩,ZF ZA,U ⟨#[]⟩,ZF ZA] 170) (N #[J I 0,Z Y 0 0,J I 0,J I 0,ZF ZA,J I 0,U ⟨#[]⟩,ZF ZA,U ⟨#[]⟩,ZF ZA] 170) 0 (J I op) rfl));clear ZZ hY M A0;go_enter func143,ntmps143;go_wp2_with fail;generalize World.alloc (World.alloc (World.alloc w _) _) _=W0 at C ⊢;refine(dl nm _).P ?_;rintro e g⟨rfl,H⟩;replace C:=ae (C.aa H);have hz1:=C.zer.1;have i0:=C.arg;clear H;have R1:=ae C.run;obtain⟨Z8,⟨c0,f0⟩,⟨c1,f1⟩,⟨c2,f2⟩,⟨c3,P⟩,⟨c4,ZO⟩,⟨c5,f5⟩,⟨c6,S⟩,⟨c7,f7⟩,⟨c8,ZN⟩,c9,V⟩:=R1.i;rcases HQ.i with⟨h1,rfl⟩|⟨h1,h2,rfl⟩|⟨h1,h2,⟨h3,rfl⟩|⟨h3,h⟩⟩
 all_goals
  rw[h1];clear HQ
 case' inr.inr.inl =>
  have ZE:=ae (((C.zer.other (T (z (A w)+1) 9 Y) (ZF ZH) (by simp)).other (T (z (A w)+1) 7 Y) (ZF ((op:Int) == 12)) (by simp)).other (T (z (A w)+1) 8 Y) (U nm) (by simp));have B2:=ae (((C.bl.setCell (p:=(T (z (A w)+1) 9 Y)) (by simp) (ZF ZH)).setCell (p:=(T (z (A w)+1) 7 Y)) (by simp) (ZF ((op:Int) == 12))).setCell (p:=(T (z (A w)+1) 8 Y)) (by simp) (U nm));obtain⟨u,⟨z0,y0⟩,⟨z1,y1⟩,⟨z2,ZM⟩,⟨z3,y3⟩,⟨j,y4⟩,⟨m,ZQ⟩,⟨o,ZP⟩,⟨q,O⟩,⟨i,X⟩,r,y9⟩:=ZE.i;have hw:(n:Int)<=l:=by omega
  go_wp2;exact bp (v:=ec p (Z a (ZU s) j_) st l ZA 0 ⟨#[]⟩ ((op:Int) == 12) nm ZH) (by simp[results,T0,go_sem,z0,z1,z2,z3,j,m,o,q,i,r]) rfl ⟨_,rfl,⟨_,_,_,_,_,rfl⟩,dS (B2.P hb) (by omega) _ _ _ _ _ _ _ _ _ _⟩
 case' inr.inr.inr =>
  obtain⟨d0,d1,d2⟩:=(HY.aa C.bl ly).2 l h3;have hln:(l:Int)<n:=by omega
  have hz0:z (A w)<z (A g):=by omega
  have hz01:z (A w)+1<z (A g):=by omega
  replace C:=ae ((C.next ((l:Int)+1)).al (N #[ZF (y l).has,J I (y l).M,U (y l).H] 119));have ZL:=kH (g.setCell (T (z (A w)+1) 3 Y) (J I ((l:Int)+1))) #[ZF (y l).has,J I (y l).M,U (y l).H] 119 (z (A g)) 0 (ZF (y l).has) (by simp) rfl;have g1:=kH (g.setCell (T (z (A w)+1) 3 Y) (J I ((l:Int)+1))) #[ZF (y l).has,J I (y l).M,U (y l).H] 119 (z (A g)) 1 (J I (y l).M) (by simp) rfl;have g2:=kH (g.setCell (T (z (A w)+1) 3 Y) (J I ((l:Int)+1))) #[ZF (y l).has,J I (y l).M,U (y l).H] 119 (z (A g)) 2 (U (y l).H) (by simp) rfl;have bt:z (A g)<((g.setCell (T (z (A w)+1) 3 Y) (J I ((l:Int)+1))).alloc (N #[ZF (y l).has,J I (y l).M,U (y l).H] 119)).heap.size:=by simp
  go_upto_region 12 with fail;clear Z8 c0 f0 c1 f1 c2 f2 c3 P c4 ZO c5 f5 c6 S c7 f7 c8 ZN c9 V R1 d0 d1 d2 i0;generalize World.alloc (World.setCell g _ _) _=W at C ZL g1 g2 bt ⊢;have i0:=C.arg;have hbW:base<=z (A W):=nX hb C.bl.size;obtain⟨D,hi,ZS,ZR,ZT⟩:=NP gX;obtain⟨Z8,⟨c0,f0⟩,⟨c1,f1⟩,⟨c2,f2⟩,⟨c3,P⟩,⟨c4,ZO⟩,⟨c5,f5⟩,⟨c6,S⟩,⟨c7,f7⟩,⟨c8,ZN⟩,c9,V⟩:=C.run;rcases h with⟨rfl,rfl⟩|⟨rfl,⟨R,rfl⟩|⟨R,⟨h5,rfl⟩|⟨h5,rfl⟩⟩⟩
  case' inr.inl|inr.inr.inr=>rw[R] at ZL
  case' inr.inr.inl =>rw[R] at ZL;rw[h5] at g1;go_wp2_with (at_builtin;refine DN _ rfl (.tmp 70) (.tmp 73) 43 rfl base 9 D (U ⟨#[]⟩) 1 16 NH hi ZS ZR ZT rfl (by decide) (Z a (ZU s) j_) (ZU s) (strs s) (by simp[Act.eval]) (by first|exact C.u.alloc _|exact C.u.drew.alloc _|exact C.u.drew.drew.alloc _) (T (z (A W)) 0 Y) 1 1 [U (y l).H] (by simp[Act.eval]) rfl (by first|exact ep W _ _|exact ep W.drew _ _|exact ep W.drew.drew _ _) (by simp[Value.oneCell']) (by unfold maxLen;omega) (by omega) (by simp<;>omega) ?_;intro v' w2 b f x;obtain⟨gg,B,rfl⟩:=iA b (by omega);have G:=ae (LkS.grown (by first|exact C.al _|exact C.drew.al _|exact C.drew.drew.al _) f hb);obtain⟨mv,⟨k0,m0⟩,⟨k1,m1⟩,⟨k2,m2⟩,⟨k3,m3⟩,⟨k4,m4⟩,⟨k5,m5⟩,⟨k6,m6⟩,⟨k7,m7⟩,⟨k8,m8⟩,k9,m9⟩:=G.1;obtain⟨u,⟨z0,y0⟩,⟨z1,y1⟩,⟨z2,ZM⟩,⟨z3,y3⟩,⟨j,y4⟩,⟨m,ZQ⟩,⟨o,ZP⟩,⟨q,O⟩,⟨i,X⟩,r,y9⟩:=G.2.1)
  case' inl =>go_wp2_with fail;go_region_law (first|(refine dR rfl (.tmp 49) (.tmp 53) 43 rfl base 9 D (U ⟨#[]⟩) 1 16 NH hi ZS ZR ZT rfl (by decide) (Z a (ZU s) j_) (ZU s) (strs s) (by simp[Act.eval]) (by first|exact C.u.alloc _|exact C.u.drew.alloc _|exact C.u.drew.drew.alloc _) (T (z (A W)) 0 Y) 1 1 [U (eU (y l).has)] (by simp[Act.eval]) rfl (by first|exact ep W _ _|exact ep W.drew _ _|exact ep W.drew.drew _ _) (by simp[Value.oneCell']) (by unfold maxLen;omega) (by omega) (by simp<;>omega) ?_;intro v' w2 b f x;obtain⟨gg,B,rfl⟩:=iA b (by omega);have G:=ae (LkS.grown (by first|exact C.al _|exact C.drew.al _|exact C.drew.drew.al _) f hb);obtain⟨mv,⟨k0,m0⟩,⟨k1,m1⟩,⟨k2,m2⟩,⟨k3,m3⟩,⟨k4,m4⟩,⟨k5,m5⟩,⟨k6,m6⟩,⟨k7,m7⟩,⟨k8,m8⟩,k9,m9⟩:=G.1;obtain⟨u,⟨z0,y0⟩,⟨z1,y1⟩,⟨z2,ZM⟩,⟨z3,y3⟩,⟨j,y4⟩,⟨m,ZQ⟩,⟨o,ZP⟩,⟨q,O⟩,⟨i,X⟩,r,y9⟩:=G.2.1)|(go_simp;go_at_call 162;refine(qx _ _).P ?_;rintro e w9⟨rfl,la⟩;subst la))
  all_goals (try (have K:=Bw b (yc (s:=s)).choose_spec G.1.2.1.1;have fd:=Bw b (yc (s:=s)).choose_spec G.2.1.2.1.1;have ld:=ae (dT b K (Z (Q (T gg 0 Y)) (ZU s+1) B) 1);have B4:=ae (G.2.2.setCell (p:=(T (z (A w)+1) 1 Y)) (by simp;omega) (Z (Q (T gg 0 Y)) (ZU s+1) B));clear b f x K;(try go_wp2);refine bp (v:=ec p (Z (Q (T gg 0 Y)) (ZU s+1) B) st ((l:Int)+1) ZA 0 ⟨#[]⟩ ZA ⟨#[]⟩ ZA) (by simp[results,T0,go_sem,z0,z1,z2,z3,j,m,o,q,i,r]) rfl ⟨_,rfl,⟨Q (T gg 0 Y),B,by simp,?_⟩,dS B4.i (by omega) _ _ _ _ _ _ _ _ _ _⟩;rw[gQ];exact E9 ld fd _ _ _ _ _ _ _ _ _ _))
 all_goals
  go_wp2_with fail;refine(fN _ _ _ _ _ _ _ _ _ _ _ _ _ _ _).P ?_;rintro e w2⟨rfl,L⟩;replace C:=ae (C.aa L);clear L Z8 c0 f0 c1 f1 c2 f2 c3 P c4 ZO c5 f5 c6 S c7 f7 c8 ZN c9 V;obtain⟨u,⟨z0,y0⟩,⟨z1,y1⟩,⟨z2,ZM⟩,⟨z3,y3⟩,⟨j,y4⟩,⟨m,ZQ⟩,⟨o,ZP⟩,⟨q,O⟩,⟨i,X⟩,r,y9⟩:=C.zer;go_wp2;first
   |exact bp (v:=ec p (Z a (ZU s) j_) st l ZH 3 ⟨#[]⟩ ZA ⟨#[]⟩ ZA) (by simp[results,T0,go_sem,z0,z1,z2,z3,j,m,o,q,i,r]) rfl ⟨_,rfl,⟨_,_,_,_,_,rfl⟩,dS (C.bl.P hb) (by omega) _ _ _ _ _ _ _ _ _ _⟩
   |exact bp (v:=ec p (Z a (ZU s) j_) st l ZH 2 pl ZA ⟨#[]⟩ ZA) (by simp[results,T0,go_sem,z0,z1,z2,z3,j,m,o,q,i,r]) rfl ⟨_,rfl,⟨_,_,_,_,_,rfl⟩,dS (C.bl.P hb) (by omega) _ _ _ _ _ _ _ _ _ _⟩
   |exact bp (v:=ec p (Z a (ZU s) j_) st ((l:Int)+1) ZH 4 nm ZA ⟨#[]⟩ ZA) (by simp[results,T0,go_sem,z0,z1,z2,z3,j,m,o,q,i,r]) rfl ⟨_,rfl,⟨_,_,_,_,_,rfl⟩,dS (C.bl.P hb) (by omega) _ _ _ _ _ _ _ _ _ _⟩
   |exact bp (v:=ec p (Z a (ZU s) j_) st ((l:Int)+1) ZH 5 nm ZA ⟨#[]⟩ ZA) (by simp[results,T0,go_sem,z0,z1,z2,z3,j,m,o,q,i,r]) rfl ⟨_,rfl,⟨_,_,_,_,_,rfl⟩,dS (C.bl.P hb) (by omega) _ _ _ _ _ _ _ _ _ _⟩
def add0 (g j:Nat):((T g 0 Y):Addr).add j=(T g j Y):=by unfold Addr.add;split<;>simp_all
def Hl (h:ZY w base e 1 (Z (Q (T g 0 Y)) (ZU r+1) j_) (ZU r+1) (strs (x::r))):ZW w (T g (ZU r) Y)=Q (U x):=by have:=h.cells (g:=g) rfl (ZU r) (U x) (by rw[gQ,KK (by simp)];simp);rwa[add0] at this
def Hm{ZZ:F_}(h:ZY w base e 1 (Z (Q (T g 0 Y)) (ZU r+2) j_) (ZU r+2) (strs (x::ZZ::r))):ZW w (T g (ZU r+1) Y)=Q (U x)/\ZW w (T g (ZU r) Y)=Q (U ZZ):=by have h1:=h.cells (g:=g) rfl (ZU r+1) (U x) (by rw[gQ,KK (by simp)];simp);have h2:=h.cells (g:=g) rfl (ZU r) (U ZZ) (by rw[gQ,NI (by simp),gQ,KK (by simp)];simp);rw[add0] at h1 h2;exact⟨h1,h2⟩
def Hn{f:List ZB}(h:ZY w base e 1 (Z (Q (T g 0 Y)) n j_) n f):n<=j_:=by
 rcases h.2 with⟨i,_⟩|⟨g,c,cur,b,_,_,hn,_⟩
 {simp at i};{simp at b;omega}
def Ho{xs:List ZB}(h:ZY w base e 1 (Z (Q (T g 0 Y)) n j_) n (strs r++xs)):∀j u,(strs r)[j]?=Q u->w.cell? (((T g 0 Y):Addr).add j)=Q u:=λj u b =>h.cells (g:=g) rfl j u (by rw[NI (by obtain⟨f,_⟩:=j5.1 b;exact f)];exact b)
def sM{v:ZB}(h:ZY w base e 1 v n i)(b:v≠.slice Y 0 0):∃g j_,v=Z (Q (T g 0 Y)) n j_/\base<=g:=by
 rcases h.2 with⟨j,_⟩|⟨g,j_,cur,b,f,_⟩
 {exact absurd j b};{exact⟨g,j_,b,f⟩}
def Fa (r:List F_):∀u∈strs r,u.oneCell'=ZH:=by intro u b;obtain⟨x,_,rfl⟩:=NN.1 b;rfl
def SoIs.form{v:ZB}{r:SO}(h:SoIs w base v r):∃(at_:Int) (a:O_) (n j_:Nat) (st lk:Int) (b:Bool) (c:Int) (x:F_) (ask:Bool) (nm:F_) (f:Bool),v=ec at_ (Z a n j_) st lk b c x ask nm f:=by
 rcases r with⟨p,st,l,s⟩|⟨c,x,st⟩|⟨ask,nm,st⟩
 {obtain⟨a,j_,e,_⟩:=h;exact⟨_,_,_,_,_,_,_,_,_,_,_,_,e⟩};{obtain⟨at_,a,n,j_,lk,e⟩:=h;exact⟨_,_,_,_,_,_,_,_,_,_,_,_,e⟩};{obtain⟨at_,a,n,j_,lk,e⟩:=h;exact⟨_,_,_,_,_,_,_,_,_,_,_,_,e⟩}
def SoIs.set{v:ZB}{r:SO}(h:SoIs w base v r){k:Nat}(b:k<base)(j:Nat)(u:ZB):SoIs (w.setCell (T k j Y) u) base v r:=by
 rcases r with⟨p,st,l,s⟩|⟨c,x,st⟩|⟨ask,nm,st⟩
 {obtain⟨a,j_,e,f⟩:=h;exact⟨a,j_,e,WH f (a:=(T k j Y)) b u⟩};{exact h};{exact h}
def SoIs.P{base':Nat}{v:ZB}{r:SO}(h:SoIs w base v r)(hb:base'<=base):SoIs w base' v r:=h.kept br hb
def BD{v:ZB}{r:SO}(h:SoIs w base v r){k:Nat}(b:k<base)(v0 v1 v2 v3 v4 v5 v6 v7 v8 v9:ZB):SoIs ((((((((((w.setCell (T k 0 Y) v0).setCell (T k 1 Y) v1).setCell (T k 2 Y) v2).setCell (T k 3 Y) v3).setCell (T k 4 Y) v4).setCell (T k 5 Y) v5).setCell (T k 6 Y) v6).setCell (T k 7 Y) v7).setCell (T k 8 Y) v8).setCell (T k 9 Y) v9) base v r:=
 (((((((((h.set b 0 v0).set b 1 v1).set b 2 v2).set b 3 v3).set b 4 v4).set b 5 v5).set b 6 v6).set b 7 v7).set b 8 v8).set b 9 v9
def zK (op n:Nat)(t a b:F_)(h1:1<=op)(h11:op<=11):(cB op n t a b).length=bN op:=by rcases(show op=1\/op=2\/op=3\/op=4\/op=5\/op=6\/op=7\/op=8\/op=9\/op=10\/op=11 by omega) with rfl|rfl|rfl|rfl|rfl|rfl|rfl|rfl|rfl|rfl|rfl;all_goals rfl
def Hp (h1:1<=op)(h11:op<=11)(h:j<bN op):op<=8:=by rcases(show op=1\/op=2\/op=3\/op=4\/op=5\/op=6\/op=7\/op=8\/op=9\/op=10\/op=11 by omega) with rfl|rfl|rfl|rfl|rfl|rfl|rfl|rfl|rfl|rfl|rfl;all_goals simp[bN] at h ⊢
def Fb (op:Nat):bN op<=2:=by
 unfold bN;split;{omega};{split<;>omega}
def gR (b:List F_)(pl:F_)(r:List F_)(p st l:Nat):SO:=if b.all (λx=>decide (x.size<=2000)) then .inl (p,st,l,(b.reverse++r)) else .inr (.inl (2,pl,st))
def BH{b:List F_}(h:j<ZU b):(b.take (j+1)).map Value.string=(b.take j).map Value.string++[U (b.getD j ⟨#[]⟩)]:=by rw[V4,NE,gq h];simp[h]
def Fc (b r:List F_):strs (b.reverse++r)=strs r++b.map Value.string:=by simp[strs]
def Hq{b:List F_}(h:j<ZU b)(f:¬ ((b.getD j ⟨#[]⟩).size:Int)<=2000):b.all (λx=>decide (x.size<=2000))=ZA:=by simp only[List.all_eq_false];exact⟨b[j],gz h,by simp[h] at f ⊢;omega⟩
def Fe{b:List F_}(h:∀i,i<ZU b->(b.getD i ⟨#[]⟩).size<=2000):b.all (λx=>decide (x.size<=2000))=ZH:=by simp only[List.all_eq_true,nD];intro x f;obtain⟨i,hi,rfl⟩:=List.mem_iff_getElem.1 f;have:=h i hi;simpa[hi] using this
def iE (y:Nat->aD)(n zd st x_:Nat):Res->SO
 |.inr (.inl (c,x))=>.inr (.inl (c,x,st))
 |.inl (s',p)=>.inl (p,st,x_,s')
 |.inr (.inr (a,nm,s'))=>kj y n a nm s' (zd+1) st x_
def gn (f:Nat->Ins)(yh:Nat)(y:Nat->aD)(n zd v_ x_:Nat)(s:List F_):SO:=iE y n zd (cU yh zd v_) x_ (bQ f yh zd v_ x_ s)
def BJ (h:ZY w base e 1 (Z a n j_) n i):(a=Y/\n=0/\j_=0)\/∃g,a=Q (T g 0 Y):=by
 rcases h.2 with⟨f,_⟩|⟨g,c,cur,b,_⟩
 {simp only[IS] at f;exact .inl f};{simp only[IS] at b;exact .inr ⟨g,b.1⟩}
def zL (op k:Nat)(t a b:F_)(h1:1<=op)(h11:op<=11)(h2:op≠2)(g:t.size<=2000)(f:a.size<=2000)(hb:b.size<=2000):(cB op k t a b).all (λx=>decide (x.size<=2000))=ZH:=by
 rcases(show op=1\/op=3\/op=4\/op=5\/op=6\/op=7\/op=8\/op=9\/op=10\/op=11 by omega) with rfl|rfl|rfl|rfl|rfl|rfl|rfl|rfl|rfl|rfl;{simp[cB,g]};{simp only[cB,WT,XX,TC,nD];split;{simp;omega};{exact f}};{simp only[cB,WT,XX,TC,nD];split;{simp;omega};{decide}};{simp only[cB,WT,XX,TC,nD];exact nX (qB _ _) f};{simp only[cB,WT,XX,TC,nD];exact jr _};{simp[cB,f]};{simp[cB,f,hb]};{rfl};{rfl};{rfl}
def zN (op k:Nat)(t a b pl:F_)(r:List F_)(p st l:Nat)(h1:1<=op)(f:op<=11)(h2:op≠2)(h:t.size<=2000)(g:a.size<=2000)(hb:b.size<=2000):gR (cB op k t a b) pl r p st l=.inl (p,st,l,((cB op k t a b).reverse++r)):=by unfold gR;rw[zL op k t a b h1 f h2 h g hb];rfl
def IX (k:Nat)(t x ZZ:F_)(r:List F_)(y:Nat->aD)(n zd st x_:Nat):iE y n zd st x_ (cK 2 k t zd x_ (x::ZZ::r))=gR (cB 2 k t x ZZ) (dV zd) r (zd+1) st x_:=by
 unfold gR;simp only[cK,cB,WT,XX,TC,PV];by_cases h:ZZ.size+x.size<=2000;{rw[eT h,eT (by simpa using h)];rfl};{rw[eI h,eI (by simpa using h)];rfl}
def yd (op:Nat)(y:Nat->aD)(n zd st x_:Nat)(x:F_)(r:List F_)(b:Bool)(hb:((op:Int) == 12)=b):iE y n zd st x_ (iN b x r zd x_)=jR y n op (dV zd) x r (zd+1) st x_:=by
 unfold iN jR;rw[hb];by_cases h1:aA x=ZA;{rw[eT h1,eT h1];rfl};{rw[eI h1,eI h1];by_cases h2:x_=200;{rw[eT h2,eT h2];rfl};{rw[eI h2,eI h2];rfl}}
def Ff (l r:List F_):strs (l++r)=strs r++strs l:=by simp[strs]
def lZ (op:Nat)(s:List F_):F_:=if 0<aX op then s.getD 0 ⟨#[]⟩ else ⟨#[]⟩
def rI (op:Nat)(s:List F_):F_:=if 1<aX op then s.getD 1 ⟨#[]⟩ else ⟨#[]⟩
def nJ (op k:Nat)(a:F_)(zd:Nat):Nat:=if op=10 then k else if op=11/\(a.toList=[]\/(a.toList == [48])=ZH) then k else zd+1
def JC{k zd:Nat}{Z8:F_}(h:op=10\/op=11/\Z8.toList.isEmpty=ZH\/op=11/\(Z8.toList == [48])=ZH):nJ op k Z8 zd=k:=by
 unfold nJ;rcases h with rfl|⟨rfl,h⟩|⟨rfl,h⟩
 {rfl};{rw[eI (by omega),eT ⟨rfl,.inl (List.isEmpty_iff.1 h)⟩]};{rw[eI (by omega),eT ⟨rfl,.inr h⟩]}
def Hr (op:Nat)(Z8:F_)(h:op<=15):op=15\/op=14\/op=12\/op=13\/op=10\/(op=11/\Z8.toList.isEmpty=ZH)\/(op=11/\Z8.toList.isEmpty=ZA/\(Z8.toList == [48])=ZH)\/(op=11/\Z8.toList.isEmpty=ZA/\(Z8.toList == [48])=ZA)\/op<=9:=by
 by_cases e:op=11;{subst e;cases Z8.toList.isEmpty<;>cases (Z8.toList == [48])<;>simp};{omega}
def vg (h:∀x∈s,x.size<=2000)(op:Nat):(lZ op s).size<=2000/\(rI op s).size<=2000:=by
 have g:∀j,(s.getD j ⟨#[]⟩).size<=2000:=λj=>by
  rw[CL];rcases hj:s[j]? with _|x;{exact DW _};{exact h x (J1 hj)}
 refine⟨?_,?_⟩;{unfold lZ;split;{exact g 0};{exact DW _}};{unfold rI;split;{exact g 1};{exact DW _}}
def Fg (op k:Nat)(t:F_)(s:List F_)(y:Nat->aD)(n zd st x_:Nat)(h1:1<=op)(f:op<=11)(hb:aX op<=ZU s)(h:t.size<=2000)(b:∀x∈s,x.size<=2000):iE y n zd st x_ (cK op k t zd x_ s)=gR (cB op k t (lZ op s) (rI op s)) (dV zd) (s.drop (aX op)) (nJ op k (lZ op s) zd) st x_:=by
 have g:=(vg b op).1;have i:=(vg b op).2;by_cases h2:op=2
 ·subst h2;match s,hb with
  |x::ZZ::r,_=>exact IX k t x ZZ r y n zd st x_
 ·rw[zN op k t _ _ _ _ _ _ _ h1 f h2 h g i];rcases(show op=1\/op=3\/op=4\/op=5\/op=6\/op=7\/op=8\/op=9\/op=10\/op=11 by omega) with rfl|rfl|rfl|rfl|rfl|rfl|rfl|rfl|rfl|rfl;{rfl};iterate 3
   ·match s,hb with
    |x::r,_=>rfl
  ·match s,hb with
   |x::ZZ::r,_=>rfl
  ·match s,hb with
   |x::r,_=>rfl
  ·match s,hb with
   |x::ZZ::r,_=>rfl
  ·match s,hb with
   |x::r,_=>rfl
  {rfl}
  ·match s,hb with
   |x::r,_ =>show iE y n zd st x_ (cK 11 k t zd x_ (x::r))=.inl (nJ 11 k x zd,st,x_,r);simp only[cK,iE,nJ,show((11:Nat)=10)=False by simp,UI,TX]
def Ht (op k:Nat)(t:F_)(s:List F_)(y:Nat->aD)(n zd st x_:Nat)(h:op=12\/op=13)(hb:aX op<=ZU s):iE y n zd st x_ (cK op k t zd x_ s)=jR y n op (dV zd) (lZ op s) (s.drop (aX op)) (zd+1) st x_:=by
 rcases h with rfl|rfl
 ·match s,hb with
  |x::r,_=>exact yd 12 y n zd st x_ x r ZH rfl
 ·match s,hb with
  |x::r,_=>exact yd 13 y n zd st x_ x r ZA rfl
def ye (op k:Nat)(t:F_)(s:List F_)(y:Nat->aD)(n zd st x_:Nat)(h:op=14\/op=15)(hb:aX op<=ZU s):iE y n zd st x_ (cK op k t zd x_ s)=.inr (.inl (15 - (op:Int),lZ op s,st)):=by
 rcases h with rfl|rfl
 ·match s,hb with
  |x::r,_=>rfl
 ·match s,hb with
  |x::r,_=>rfl
def eJ (f:Nat->au)(l:Link):aD:=
 if l.ask=ZH then
  (if (f l.G.toNat).L=1 then ⟨ZH,0,(f l.G.toNat).H⟩ else if (f l.G.toNat).L=3 then ⟨ZH,(f l.G.toNat).M,(f l.G.toNat).H⟩ else ⟨ZA,0,⟨#[]⟩⟩)
 else ⟨l.has,0,⟨#[]⟩⟩
def yOf (f:Nat->au)(p:Nat)(k:Nat):aD:=eJ f ((f p).m k)
def bB (f:Nat->au)(p k:Nat):Turn:=cA (f p).q (f p).h (yOf f p) k 2001 0 0 0 []
def eA (f:Nat->au)(p k:Nat):Bool:=(bB f p k).K || !((bB f p k).e.toList == ((f p).m k).e.toList) || !((bB f p k).ask == ((f p).m k).ask)
def eF (f:Nat->au)(p:Nat):Nat->Nat->Nat
 |0,k=>k
 |j+1,k=>if eA f p k=ZH then k else eF f p j (k+1)
def bD (f:Nat->au)(p:Nat):Nat:=eF f p (f p).f 0
def gB (f:Nat->au)(p:Nat):Int:=
 if bD f p<(f p).f then 4 else if (bB f p (bD f p)).K=ZA then 4 else if (bB f p (bD f p)).M=(f p).M/\(bB f p (bD f p)).H.toList=(f p).H.toList then 0 else 5
def codeF (f:Nat->au)(p:Nat):Int:=if (f p).L=3 then gB f p else 0
def zO (f:Nat->au):Nat->Int × Int
 |0=>(0,0)
 |k+1=>if (zO f k).1=0 then (if codeF f k=0 then (0,0) else (codeF f k,(k:Int))) else zO f k
def px (f:Nat->au)(p:Nat):∀j k,k<=eF f p j k/\eF f p j k<=k+j
 |0,k=>⟨p7 _,p7 _⟩
 |j+1,k=>by
  rw[eF];split
  ·omega
  ·have:=px f p j (k+1)
   omega
def vh{k:Nat}(h:eA f p k=ZA):eF f p (j+1) k=eF f p j (k+1):=by rw[eF,eI (by rw[h];simp)]
def vi{k:Nat}(h:eA f p k=ZH):eF f p (j+1) k=k:=by rw[eF,eT h]
def Jv (b:∀i,i<n->codeF f i=0):zO f n=(0,0):=by
 induction n with
 |zero=>rfl
 |succ m g=>rw[zO,g λi hi=>b i (by omega),eT rfl,eT (b m (by omega))]
def ed (h:bc f n=ZH):∀p,p<n->(f p).H.size<=2000/\((f p).L=1/\(f p).M=0\/(f p).L=2/\(f p).M=0/\(f p).H.size=0\/(f p).L=3/\0<=(f p).M/\(f p).M<=5/\valid (f p).q (f p).h=ZH/\(f p).f<=200):=by
 intro p i;have h1:=eN (er h).2.2 p i;simp only[bw,j6,kindOk,nD] at h1;obtain⟨⟨_,g⟩,h2⟩:=h1;refine⟨g,?_⟩;split at h2;{rename_i b;simp only[aY,j6,nD] at h2;exact .inl ⟨b,h2.1.1⟩};{split at h2;{rename_i b;simp only[aY,j6,nD] at h2;exact .inr (.inl ⟨b,h2.1.1.1,h2.2⟩)};{split at h2;{rename_i b;simp only[cC,j6,nD] at h2;exact .inr (.inr ⟨b,h2.1.1.1.1,h2.1.1.1.2,h2.1.1.2,h2.1.2⟩)};{simp at h2}}}
def yg (h:bc f n=ZH){l:Link}(b:l.ask=ZH->l.G.toNat<n):cI (eJ f l)=ZH:=by
 unfold eJ cI;split;{rename_i g;obtain⟨h1,h2⟩:=ed h _ (b g);split;{simp;omega};{split;{rename_i hk1 hk3;rcases h2 with h2|h2|h2;{omega};{omega};{simp;omega}};{exact QD ⟨DW _,by decide,by decide⟩}}};{exact QD ⟨DW _,YR _,show(0:Int)<=7 by decide⟩}
def vj{k:Nat}(h:∀i,i<k->cI (y i)=ZH):bU y k=ZH:=by
 induction k with
 |zero=>rfl
 |succ k b=>rw[bU,b λi hi=>h i (by omega),h k (by omega)];rfl
def nK (h:bc f n=ZH){l:Link}(m:l.ask=ZH)(i:l.G.toNat<n):eJ f l=⟨decide (¬ (f l.G.toNat).L=2),(f l.G.toNat).M,(f l.G.toNat).H⟩:=by
 obtain⟨h1,h2⟩:=ed h _ i;unfold eJ;rw[eT m];rcases h2 with⟨b,g⟩|⟨b,g,j⟩|⟨b,g⟩
 {rw[eT b,b,g];rfl};{rw[eI (by omega),eI (by omega),b,g];have:(f l.G.toNat).H=⟨#[]⟩:=YU (TH j);rw[this];rfl};{rw[eI (by omega),eT b,b];rfl}
def oR (u j n j_:Nat)(f:Nat->au)(l:Link)(w:E)(r:bc f n=ZH)(q:Qv w u j n f)(B:l.ask=ZH->0<=l.G/\l.G.toNat<n):Calls Pg 137 #[ZJ #[Z (Q (T u j Y)) n j_],ZJ #[U l.e,ZF l.ask,ZF l.has,J I l.G]] w λe w'=>e=ZI (ZJ #[ZF (eJ f l).has,J I (eJ f l).M,U (eJ f l).H])/\Below (z (A w)) w w':=by
 have ZO:=ae q;have y:=ae (λD:l.ask=ZH=>nK r D (B D).2);have Z8:=ae B;have t:=ae (show l.ask=ZA->eJ f l=⟨l.has,0,⟨#[]⟩⟩ from λh=>by unfold eJ;rw[eI (by rw[h];simp)]);clear q r B;obtain⟨R,hR⟩:∃R,R=eJ f l:=⟨_,rfl⟩
 rw[<-hR] at y t ⊢;clear hR;obtain⟨nm,ask,s,at_⟩:=l;dsimp only at y Z8 t ⊢;have x:=ae ((((BS w).alloc ly (N #[Z (Q (T u j Y)) n j_] 25)).alloc (by simp) (N #[U nm,ZF ask,ZF s,J I at_] 65)).alloc (by simp;omega) (N #[ZF ZA,J I 0,U ⟨#[]⟩] 119));cases ask with
 |false =>
  obtain rfl:R=⟨s,0,⟨#[]⟩⟩:=t.i rfl;dsimp only;go_enter func137,ntmps137;go_wp2
  exact bp (v:=ZJ #[ZF s,J I 0,U ⟨#[]⟩]) (by simp[results,results137,go_sem]) rfl ⟨rfl,by
   repeat (first|exact a8 _ _|refine VG ?_ (by simp<;>omega) _)⟩
 |true =>
  obtain⟨h1,h2⟩:=Z8.i rfl;obtain⟨p,rfl⟩:=p9 h1;have K:p<n:=by simpa using h2
  obtain rfl:R=⟨decide (¬ (f p).L=2),(f p).M,(f p).H⟩:=by have:=y.i rfl;simpa using this
  dsimp only;obtain⟨ZP,O,ZM,L,⟨ZN,C,ZL,S⟩,⟨P,ZZ,ZQ,ZS⟩⟩:=(ZO.i.aa x.i ly).2 p K;clear S ZS y t Z8;have hpn:(p:Int)<n:=by omega
  go_enter func137,ntmps137;go_wp2_with fail;clear ZP O ZM L ZL ZQ;obtain⟨m,o⟩:∃W:E,ZV (ZV (ZV w (N #[Z (Q (T u j Y)) n j_] 25)) (N #[U nm,ZF ZH,ZF s,J I (p:Int)] 65)) (N #[ZF ZA,J I 0,U ⟨#[]⟩] 119)=W:=⟨_,rfl⟩
  obtain⟨-,-,-,-,z0⟩:=nb3 o;have b:=ae o;clear o;have c0:ZW m (T (z (A w)+1+1) 0 Y)=Q (ZF ZA):=by rw[<-b.i];simp[go_sem]
  have ZT:ZX m (T (z (A w)+1+1) 0 Y)=ZA:=by rw[<-b.i];simp[go_sem]
  have c1:ZW m (T (z (A w)+1+1) 1 Y)=Q (J I 0):=by rw[<-b.i];simp[go_sem]
  have G:ZX m (T (z (A w)+1+1) 1 Y)=ZA:=by rw[<-b.i];simp[go_sem]
  have c2:ZW m (T (z (A w)+1+1) 2 Y)=Q (U ⟨#[]⟩):=by rw[<-b.i];simp[go_sem]
  have H:ZX m (T (z (A w)+1+1) 2 Y)=ZA:=by rw[<-b.i];simp[go_sem]
  rw[b.i] at x ⊢;clear b;refine(sj (f p) ZN C P ZZ _).P ?_;rintro e X⟨rfl,i⟩;have g:z (A w)+1+1<z (A m):=by omega
  have M:=(i.O (p:=(T (z (A w)+1+1) 0 Y)) g).k c0;have d1:=(i.O (p:=(T (z (A w)+1+1) 1 Y)) g).k c1;have V:=(i.O (p:=(T (z (A w)+1+1) 2 Y)) g).k c2;have e0:=(i.frozen (p:=(T (z (A w)+1+1) 0 Y)) g).k ZT;have e1:=(i.frozen (p:=(T (z (A w)+1+1) 1 Y)) g).k G;have e2:=(i.frozen (p:=(T (z (A w)+1+1) 2 Y)) g).k H;have ZR:=ae (x.i.k (i.P x.i.size));have hz1:z (A w)+1+1<z (A X):=lj g i.size;clear i c0 c1 c2 ZT G H;go_wp2;exact bp (v:=ZJ #[ZF (decide (¬ (f p).L=2)),J I (f p).M,U (f p).H]) (by simp[results,results137,go_sem,M,d1,V]) rfl ⟨rfl,((ZR.i.setCell (p:=(T (z (A w)+1+1) 0 Y)) (by simp;omega) _).setCell (p:=(T (z (A w)+1+1) 1 Y)) (by simp;omega) _).setCell (p:=(T (z (A w)+1+1) 2 Y)) (by simp;omega) _⟩
def qE (B q n j_:Nat)(f:Nat->au)(p x u o:Nat)(a1:O_)(s:Nat)(w:E)(C:bc f n=ZH)(hp:p<n)(hk:(f p).L=3)(aq:Qv w B q n f)(hI:Qj w x u (f p).h (f p).q)(GS:SlLink w a1 (f p).f (f p).m)(sm:Tab2 w)(L:Pow w):Calls Pg 101 #[ZJ #[Z (Q (T B q Y)) n j_],ZJ #[U (f p).e,J I (f p).L,J I (f p).M,U (f p).H,Z (Q (T x u Y)) (f p).h o,Z a1 (f p).f s]] w λe w'=>e=ZI (.tuple #[(bB f p (bD f p)).v,J I (((f p).f:Int) - (bD f p:Int))])/\Below (z (A w)) w w':=by
 have JU:valid (f p).q (f p).h=ZH/\(f p).f<=200:=by
  rcases(ed C p hp).2 with h|h|h;{omega};{omega};{exact⟨h.2.2.2.1,h.2.2.2.2⟩}
 obtain⟨hv,hN⟩:=JU;have Id:(f p).h<=200:=by have:=(bJ hv).2.2;omega
 have ur:=ae (bJ hv).1;have K:=ae C;have la:=ae (λj (hj:j<(f p).f) (P:((f p).m j).ask=ZH)=>(⟨(fq C p hp j hj P).1,Nat.lt_trans (fq C p hp j hj P).2.1 hp⟩:0<=((f p).m j).G/\((f p).m j).G.toNat<n));have ZN:=ae aq;have HI:=ae hI;have J4:=ae GS;have Fk:=ae sm;have fd:=ae L;have hib:=hI.1;have JJ:=sm.1;have hpwb:=L.lt;clear C aq hI GS sm L hv hk;obtain⟨R,ld⟩:∃R,R=bB f p (bD f p):=⟨_,rfl⟩
 obtain⟨S,ro⟩:∃S,S=bD f p:=⟨_,rfl⟩
 rw[<-ld,<-ro];have JR:=ae ld;have ZQ:=ae ro;clear ld ro;have ZO:=ae (show Below (z (A w)) w (ZV (ZV (ZV w (N #[Z (Q (T B q Y)) n j_] 25)) (N #[U (f p).e,J I (f p).L,J I (f p).M,U (f p).H,Z (Q (T x u Y)) (f p).h o,Z a1 (f p).f s] 62)) (N #[ZF ZA,J I 0,U ⟨#[]⟩,ZF ZA,U ⟨#[]⟩,J I 0] 116)) from(((BS w).alloc ly (N #[Z (Q (T B q Y)) n j_] 25)).alloc (by simp) (N #[U (f p).e,J I (f p).L,J I (f p).M,U (f p).H,Z (Q (T x u Y)) (f p).h o,Z a1 (f p).f s] 62)).alloc (by simp;omega) (N #[ZF ZA,J I 0,U ⟨#[]⟩,ZF ZA,U ⟨#[]⟩,J I 0] 116));have zA:z (A (ZV (ZV (ZV w (N #[Z (Q (T B q Y)) n j_] 25)) (N #[U (f p).e,J I (f p).L,J I (f p).M,U (f p).H,Z (Q (T x u Y)) (f p).h o,Z a1 (f p).f s] 62)) (N #[ZF ZA,J I 0,U ⟨#[]⟩,ZF ZA,U ⟨#[]⟩,J I 0] 116)))=z (A w)+3:=by simp
 have kA:ZW (ZV (ZV (ZV w (N #[Z (Q (T B q Y)) n j_] 25)) (N #[U (f p).e,J I (f p).L,J I (f p).M,U (f p).H,Z (Q (T x u Y)) (f p).h o,Z a1 (f p).f s] 62)) (N #[ZF ZA,J I 0,U ⟨#[]⟩,ZF ZA,U ⟨#[]⟩,J I 0] 116)) (T (z (A w)) 0 Y)=Q (Z (Q (T B q Y)) n j_):=by simp[go_sem]
 have J0:ZW (ZV (ZV (ZV w (N #[Z (Q (T B q Y)) n j_] 25)) (N #[U (f p).e,J I (f p).L,J I (f p).M,U (f p).H,Z (Q (T x u Y)) (f p).h o,Z a1 (f p).f s] 62)) (N #[ZF ZA,J I 0,U ⟨#[]⟩,ZF ZA,U ⟨#[]⟩,J I 0] 116)) (T (z (A w)+1) 4 Y)=Q (Z (Q (T x u Y)) (f p).h o):=by simp[go_sem]
 have ex:ZW (ZV (ZV (ZV w (N #[Z (Q (T B q Y)) n j_] 25)) (N #[U (f p).e,J I (f p).L,J I (f p).M,U (f p).H,Z (Q (T x u Y)) (f p).h o,Z a1 (f p).f s] 62)) (N #[ZF ZA,J I 0,U ⟨#[]⟩,ZF ZA,U ⟨#[]⟩,J I 0] 116)) (T (z (A w)+1) 5 Y)=Q (Z a1 (f p).f s):=by simp[go_sem]
 have XA:=ae (by have h:=lm (ZV (ZV w (N #[Z (Q (T B q Y)) n j_] 25)) (N #[U (f p).e,J I (f p).L,J I (f p).M,U (f p).H,Z (Q (T x u Y)) (f p).h o,Z a1 (f p).f s] 62)) (ZF ZA) (J I 0) (U ⟨#[]⟩) (ZF ZA) (U ⟨#[]⟩) (J I 0) 116;rw[show(z (A (ZV (ZV w (N #[Z (Q (T B q Y)) n j_] 25)) (N #[U (f p).e,J I (f p).L,J I (f p).M,U (f p).H,Z (Q (T x u Y)) (f p).h o,Z a1 (f p).f s] 62))))=z (A w)+1+1 by simp] at h;exact h);have S0:Sim m0 0 0 0 []:=⟨trivial,rfl,by simp,rfl,rfl,rfl,by simp,by omega,by omega,by omega⟩
 obtain⟨H0,JT,JH,Bk⟩:=pw (f:=(f p).q) (yh:=(f p).h) (m:=m0) rfl S0;have J9:=ae JT;have JV:=ae JH;have Kc:=ae Bk;clear JT JH Bk S0;go_enter func101,ntmps101;go_wp2_with fail;generalize World.alloc (World.alloc (World.alloc w _) _) _=WA at ZO zA kA J0 ex XA ⊢;refine(Bv x u (f p).h o _).P ?_;rintro e w1⟨b,rfl,hb,mv,Hx⟩;have JG:=ae mv;have B1:Hid (Below (z (A w)+3) WA w1):=by show Below _ _ _;rw[<-zA];exact Hx
 have Fd:z (A w)+3<=b:=by omega
 have hb1:b<z (A w1):=mv.lt;have n9:=ae (ZO.i.k (B1.i.P (by omega)));clear mv Hx hb;have At:Hid (Env w1 b x u (f p).h (f p).q):=⟨HI.i.aa n9.i ly,Fk.i.aa n9.i JJ,fd.i.aa n9.i ly,by omega,by omega,by omega⟩
 go_wp2_with fail;refine(qD b x u (f p).h o (f p).q m0 H0 ⟨ZA,0,⟨#[]⟩⟩ _ JG.i At.i rfl Id ur.i J9.i).P ?_;rintro e w2⟨Z8,rfl,Fm,JM,JP⟩;have ph:=ae Fm;have JZ:=ae JM;have B2:=ae (B1.i.k (JP.aa Fd (by have:=B1.i.size;omega)));clear Fm JM JP JG At;simp only[Turn.v];have th:=ae (ph.i.al (N #[ZF Z8.t.K,J I Z8.t.M,U Z8.t.H,ZF Z8.t.ask,U Z8.t.e,J I Z8.t.j] 116));have V:=ae (E7 w2 Z8.t 116);have B3:=ae (B2.i.alloc (by have:=B2.i.size;omega) (N #[ZF Z8.t.K,J I Z8.t.M,U Z8.t.H,ZF Z8.t.ask,U Z8.t.e,J I Z8.t.j] 116));have d5:=(B3.i.O (p:=(T (z (A w)+1) 5 Y)) (show (z (A w))+1<z (A w)+3 by omega)).k ex;have JK:z (A w)+3<=z (A w2):=by have:=B2.i.size;omega
 have J6:b<z (A w2):=ph.i.lt;go_wp2;clear d5 ph B2;generalize World.alloc w2 _=W3 at th V B3 ⊢;generalize (z (A w2))=g7 at V JK J6 ⊢;go_loopw [19] (λi wr=>∃(k:Nat) (r:Mst) (H:Halt),k<=(f p).f/\i=J I k/\Hid (MAt wr b (Z (Q (T x u Y)) (f p).h o) r)/\Hid (TurnBox wr g7 r.t)/\Hid (fh r H)/\Hid (gP k H)/\Hid (∀n,k<=n->eC (f p).q (f p).h (yOf f p) n H=cA (f p).q (f p).h (yOf f p) n 2001 0 0 0 [])/\Hid (eF f p ((f p).f - k) k=bD f p)/\Hid (Below (z (A w)+3) WA wr)) (λi _=>(f p).f - (intOf i).toNat);case atStart=>exact⟨0,Z8,H0,by omega,rfl,th.i,V.i,JZ.i,JV.i,λn _=>Kc.i (yOf f p) n,rfl,B3.i⟩
 case round =>
  obtain⟨k,r,H,hkN,rfl,HM,TB,HS,HL,HC,n8,BW⟩:=hrel;have ZM:=ae (ZO.i.k (BW.i.P (by omega)));have qr:Hid (r.t=bB f p k):=by show _=_;rw[<-oP (f:=(f p).q) (yh:=(f p).h) (y:=yOf f p) HS.i HL.i];exact HC.i k ly
  by_cases bt:k<(f p).f
  ·obtain⟨bl,offl,rfl,DE⟩:=(J4.i.aa ZM.i ly).resolve_left (by omega);obtain⟨r0,r1,r2,r3⟩:=DE.2 k bt;obtain⟨l,hl⟩:∃l,(f p).m k=l:=⟨_,rfl⟩
   rw[hl] at r0 r1 r2 r3;obtain⟨nm,ask,G,at_⟩:=l;dsimp only at r0 r1 r2 r3;have ZT:=ae hl;clear DE hl;obtain⟨j0,DQ⟩:∃j0,(f p).f - k=j0+1:=⟨(f p).f - k - 1,by omega⟩
   have ZS:=ae (BW.i.alloc (by have:=BW.i.size;omega) (N #[U nm,ZF ask,ZF G,J I at_] 65));have TL:=ae (TB.i.aa ((BS wr).alloc ly (N #[U nm,ZF ask,ZF G,J I at_] 65)) TB.i.1);have ML:=ae (HM.i.al (N #[U nm,ZF ask,ZF G,J I at_] 65));obtain⟨tl,⟨t0,t1,t2,t3,t4,t5⟩,tz⟩:=TL.i;clear tz;have WY:(eA f p k=ZH/\(r.t.K=ZH\/r.t.K=ZA/\((r.t.e.toList == nm.toList)=ZA\/(r.t.e.toList == nm.toList)=ZH/\(r.t.ask=ZH/\ask=ZA\/r.t.ask=ZA/\ask=ZH))))\/(eA f p k=ZA/\r.t.K=ZA/\(r.t.e.toList == nm.toList)=ZH/\r.t.ask=ask):=by unfold eA;rw[<-qr.i,ZT.i];cases r.t.K<;>cases (r.t.e.toList == nm.toList)<;>cases r.t.ask<;>cases ask<;>simp
   rcases WY with⟨ZZ,WY⟩|⟨ZZ,M,hn,D⟩
   ·replace ZZ:=ae ZZ;have ZR:Hid (S=k):=by show _=_;rw[ZQ.i,<-n8.i,DQ,vi ZZ.i]
    have ZP:Hid (R=r.t):=by show _=_;rw[JR.i,<-ZQ.i,ZR.i,qr.i]
    have d5:=(ZS.i.O (p:=(T (z (A w)+1) 5 Y)) (show (z (A w))+1<z (A w)+3 by omega)).k ex;have X:=ae (ZO.i.k (ZS.i.P (by omega)));have SX:=ae (XA.i.aa ZS.i (by omega));have hx:=SX.i.1;obtain⟨⟨v0,q0,y0⟩,⟨v1,q1,y1⟩,⟨v2,q2,y2⟩,⟨v3,q3,y3⟩,⟨v4,q4,y4⟩,⟨v5,q5,y5⟩⟩:=bl6 SX.i.2;rcases WY with M|⟨M,hn|⟨hn,⟨D,rfl⟩|⟨D,rfl⟩⟩⟩
    all_goals
     rw[M] at t0
     (try rw[D] at t3)
     go_wp2_with fail;go_region;all_goals
      go_wp2;exact bp (v:=.tuple #[R.v,J I (((f p).f:Int) - (S:Int))]) (by rw[ZP.i,ZR.i];first|simp[results,results101,go_sem,Turn.v,M,D,q0,q1,q2,q3,q4,q5]|simp[results,results101,go_sem,Turn.v,M,q0,q1,q2,q3,q4,q5]) rfl ⟨rfl,(fX X.i (by omega) _ _ _ _ _ _).drew⟩
   ·replace ZZ:=ae ZZ;rw[M] at t0;rw[D] at t3;obtain⟨a,J7,s2,pp,st,l,rfl⟩:=oQ HS.i M;have el:l=k+1:=HL.i;subst el;have JI:=(ZS.i.O (p:=(T (z (A w)) 0 Y)) (show (z (A w))<z (A w)+3 by omega)).k kA;have X:=ae (ZO.i.k (ZS.i.P (by omega)));have HY:Hid (eJ f ⟨nm,ask,G,at_⟩=yOf f p k):=by show _=_;unfold yOf;rw[ZT.i]
    have J8:=ae (yg (l:=⟨nm,ask,G,at_⟩) K.i (λP=>by have:=la.i k bt (by rw[ZT.i];exact P);rw[ZT.i] at this;exact this.2));have JY:Hid ((eJ f ⟨nm,ask,G,at_⟩).H.size<=2000):=by have:=J8.i;simp only[cI,nD] at this;exact this.1
    have Kd:Hid (ask=ZH->0<=at_/\at_.toNat<n):=λP=>by have:=la.i k bt (by rw[ZT.i];exact P);rw[ZT.i] at this;exact this
    cases ask
    all_goals
     go_wp2_with fail;clear t0 t1 t2 t3 t4 t5 r0 r1 r2 r3;generalize World.alloc wr _=WL at ZS TL ML X JI tl ⊢;first|(guard_hyp D:r.t.ask=ZH;refine(oR B q n j_ f ⟨nm,ZH,G,at_⟩ _ K.i (ZN.i.aa X.i ly) (λ_=>Kd.i (by simp))).P ?_)|refine(oR B q n j_ f ⟨nm,ZA,G,at_⟩ _ K.i (ZN.i.aa X.i ly) (λh=>by cases h)).P ?_
     rintro e w4⟨rfl,O⟩;have J5:b<z (A WL):=ML.i.lt;have M4:=ae (ML.i.aa O J5);have T4:=ae (TL.i.aa O tl);have B4:=ae (ZS.i.k (O.P (by have:=ZS.i.size;omega)));have ZL:=ae (ZO.i.k (B4.i.P (by omega)));have JW:Hid (Env w4 b x u (f p).h (f p).q):=⟨HI.i.aa ZL.i ly,Fk.i.aa ZL.i JJ,fd.i.aa ZL.i ly,by omega,by omega,by omega⟩
     clear O JI;go_wp2_with fail;refine(sL b x u (f p).h o (f p).q r a J7 s2 pp st (k+1) _ _ M4.i JW.i HS.i (by omega) JY.i Id ur.i).P ?_;rintro e w5⟨m2,H2,rfl,JN,JQ,JL,JO,W⟩;have JS:g7≠b:=by omega
     have T5:=ae (T4.i.ac W JS);have M5:=ae (JN.boxed JS m2.t);have X5:=ae (Hk m2.t T5.i);have B5:=ae (B4.i.k (W.aa Fd (by have:=B4.i.size;omega)));have B6:=ae (B5.i.k ((vf (w:=w5) (g:=g7) m2.t).aa JK (by have:=B5.i.size;omega)));have Kb:=ae JQ;have Ke:=ae JL;have Ka:Hid (∀n,k+1<=n->eC (f p).q (f p).h (yOf f p) n H2=cA (f p).q (f p).h (yOf f p) n 2001 0 0 0 []):=λn hn=>(JO (yOf f p) n hn (by rw[QS];exact HY.i.c)).c.k (HC.i n (by omega));have JX:Hid (eF f p ((f p).f - (k+1)) (k+1)=bD f p):=by show _=_;rw[<-n8.i,DQ,vh ZZ.i,show(f p).f - (k+1)=j0 by omega]
     obtain⟨ul,⟨u0,u1,u2,u3,u4,u5⟩,uz⟩:=T5.i;obtain⟨z0,z1,z2,z3,z4,z5⟩:=al6 uz;clear JN JQ JL JO W M4 T4 uz;simp only[Turn.v];go_wp2;exact⟨⟨k+1,m2,H2,by omega,by go_num,M5.i,X5.i,Kb.i,Ke.i,Ka.i,JX.i,B6.i⟩,by simp[intOf];omega⟩
  ·obtain rfl:k=(f p).f:=by omega
   have ZR:Hid (S=(f p).f):=by show _=_;rw[ZQ.i,<-n8.i,UV];rfl
   have ZP:Hid (R=r.t):=by show _=_;rw[JR.i,<-ZQ.i,ZR.i,qr.i]
   obtain⟨tl,⟨t0,t1,t2,t3,t4,t5⟩,tz⟩:=TB.i;have SX:=ae (XA.i.aa BW.i (by omega));have hx:=SX.i.1;obtain⟨⟨v0,q0,y0⟩,⟨v1,q1,y1⟩,⟨v2,q2,y2⟩,⟨v3,q3,y3⟩,⟨v4,q4,y4⟩,⟨v5,q5,y5⟩⟩:=bl6 SX.i.2;clear tz;go_wp2;exact bp (v:=.tuple #[R.v,J I (((f p).f:Int) - (S:Int))]) (by rw[ZP.i,ZR.i];simp[results,results101,go_sem,Turn.v,q0,q1,q2,q3,q4,q5]) rfl ⟨rfl,by first|exact fX ZM.i (by omega) _ _ _ _ _ _|exact fX ZM.i.drew (by omega) _ _ _ _ _ _⟩
def jS (f:Nat->au)(p:Nat):Bool:=if (f p).L=3 then (!(bB f p (bD f p)).K || decide (bD f p<(f p).f)) else ZA
def py (f:Nat->au)(p:Nat):Bool:=if (f p).L=3 then (!decide ((bB f p (bD f p)).M=(f p).M) || !((bB f p (bD f p)).H.toList == (f p).H.toList)) else ZA
def Hu (f:Nat->au)(p:Nat):codeF f p=if jS f p=ZH then 4 else if py f p=ZH then 5 else 0:=by
 unfold codeF jS py;by_cases b:(f p).L=3
 ·rw[eT b,eT b,eT b];unfold gB;by_cases h1:bD f p<(f p).f;{simp[h1]}
  ·cases ho:(bB f p (bD f p)).K with
   |false=>simp[h1]
   |true =>
    by_cases h2:(bB f p (bD f p)).M=(f p).M
    ·by_cases g:(bB f p (bD f p)).H.toList=(f p).H.toList;{simp[h1,h2,g]}
     ·have h:((bB f p (bD f p)).H.toList == (f p).H.toList)=ZA:=by simpa using g
      simp[h1,h2,g,h]
    {simp[h1,h2]}
 {rw[eI b,eI b,eI b];simp}
def nM{f:Nat->Ins}(h:SlIns w a n f)(j:valid f n=ZH):∃g i,a=Q (T g i Y)/\Qj w g i n f:=by
 have hn:=(bJ j).2;rcases h with h|⟨b,off,e,l⟩
 {omega};{exact⟨b,off,e,l⟩}
def xq (ZT:O_)(G H:Nat)(ZS:O_)(L D:Nat)(C b n j_:Nat)(f:Nat->au)(p:Nat)(a0:O_)(i:Nat)(a1:O_)(j:Nat)(w:E)(l:bc f n=ZH)(ZN:p<n)(s:Qv w C b n f)(hI:SlIns w a0 (f p).h (f p).q)(ZQ:SlLink w a1 (f p).f (f p).m)(B:Tab2 w)(y:Pow w):Calls Pg 63 #[ZJ #[Z (Q (T C b Y)) n j_,Z ZT G H,Z ZS L D],ZJ #[U (f p).e,J I (f p).L,J I (f p).M,U (f p).H,Z a0 (f p).h i,Z a1 (f p).f j]] w λe w'=>e=ZI (ZF (jS f p))/\Below (z (A w)) w w':=by
 obtain⟨r,P⟩:∃r,r=jS f p:=⟨_,rfl⟩
 rw[<-P];have S:=ae (show r=if (f p).L=3 then (!(bB f p (bD f p)).K || decide (bD f p<(f p).f)) else ZA from P);clear P;have ZZ:=ae (((BS w).alloc ly (N #[Z (Q (T C b Y)) n j_,Z ZT G H,Z ZS L D] 107)).alloc (by simp) (N #[U (f p).e,J I (f p).L,J I (f p).M,U (f p).H,Z a0 (f p).h i,Z a1 (f p).f j] 62));have R:=ae s;have ZM:=ae hI;have V:=ae ZQ;have bt:=ae B;have ZO:=ae y;have aq:=B.1;clear s hI ZQ B y;by_cases m:(f p).L=3
 ·have u:valid (f p).q (f p).h=ZH:=by
   rcases(ed l p ZN).2 with h|h|h;{omega};{omega};{exact h.2.2.2.1}
  obtain⟨pb,po,rfl,ZR⟩:=nM ZM.i u;have ZL:=ae ZR;have HK:=ae m;have x:Hid (r=(!(bB f p (bD f p)).K || decide (bD f p<(f p).f))):=by show _=_;rw[S.i,eT m]
  have M:=px f p (f p).f 0;have K:Hid (bD f p<=(f p).f):=by show eF f p (f p).f 0<=_;omega
  have O:=ae l;rw[m] at ZZ;clear ZR u ZM l M S;have Z8:=λW (g:Below (z (A w)) w W)=>qE C b n j_ f p pb po i a1 j W O.i ZN HK.i (R.i.aa g ly) (ZL.i.aa g ly) (V.i.aa g ly) (bt.i.aa g aq) (ZO.i.aa g ly);generalize bB f p (bD f p)=t at x Z8;generalize bD f p=q at x Z8 K;rw[m] at Z8;have X:=ae Z8;clear Z8;rw[m];go_enter func63,ntmps63;go_wp2_with fail;refine(X.i _ ZZ.i).P ?_;rintro e w1⟨rfl,g⟩;have ZP:=ae (ZZ.i.k (g.P ZZ.i.size));have o:=ae (ZP.i.alloc ZP.i.size (N #[ZF t.K,J I t.M,U t.H,ZF t.ask,U t.e,J I t.j] 116));have M:=K.i;clear g;simp only[Turn.v];cases ho:t.K with
  |false =>
   obtain rfl:r=ZH:=by rw[x.i,ho];rfl
   rw[ho] at o;go_wp2;go_ret;exact⟨rfl,o.i⟩
  |true =>
   rw[ho] at o;by_cases hq:q<(f p).f
   ·obtain rfl:r=ZH:=by rw[x.i,ho];simp[hq]
    have hgt:(0:Int)<((f p).f:Int) - (q:Int):=by omega
    go_wp2;go_ret;exact⟨rfl,o.i⟩
   ·obtain rfl:r=ZA:=by rw[x.i,ho];simp[hq]
    have hz:((f p).f:Int) - (q:Int)=0:=by omega
    rw[hz];go_wp2;go_ret;exact⟨rfl,o.i⟩
 ·obtain rfl:r=ZA:=by rw[S.i,eI m]
  go_enter func63,ntmps63;go_wp2;go_ret;exact⟨rfl,ZZ.i⟩
def BP (G:O_)(H ZS:Nat)(ZR:O_)(L ZT:Nat)(C g n j_:Nat)(f:Nat->au)(p:Nat)(a0:O_)(i:Nat)(a1:O_)(j:Nat)(w:E)(l:bc f n=ZH)(ZP:p<n)(s:Qv w C g n f)(hI:SlIns w a0 (f p).h (f p).q)(M:SlLink w a1 (f p).f (f p).m)(B:Tab2 w)(y:Pow w):Calls Pg 64 #[ZJ #[Z (Q (T C g Y)) n j_,Z G H ZS,Z ZR L ZT],ZJ #[U (f p).e,J I (f p).L,J I (f p).M,U (f p).H,Z a0 (f p).h i,Z a1 (f p).f j]] w λe w'=>e=ZI (ZF (py f p))/\Below (z (A w)) w w':=by
 obtain⟨r,O⟩:∃r,r=py f p:=⟨_,rfl⟩
 rw[<-O];have R:=ae (show r=if (f p).L=3 then (!decide ((bB f p (bD f p)).M=(f p).M) || !((bB f p (bD f p)).H.toList == (f p).H.toList)) else ZA from O);clear O;have ZZ:=ae (((BS w).alloc ly (N #[Z (Q (T C g Y)) n j_,Z G H ZS,Z ZR L ZT] 107)).alloc (by simp) (N #[U (f p).e,J I (f p).L,J I (f p).M,U (f p).H,Z a0 (f p).h i,Z a1 (f p).f j] 62));have ZO:=ae s;have X:=ae hI;have ZN:=ae M;have aq:=ae B;have P:=ae y;have ZL:=B.1;clear s hI M B y;by_cases o:(f p).L=3
 ·have u:valid (f p).q (f p).h=ZH:=by
   rcases(ed l p ZP).2 with h|h|h;{omega};{omega};{exact h.2.2.2.1}
  obtain⟨pb,po,rfl,K⟩:=nM X.i u;have ZM:=ae K;have HK:=ae o;have x:Hid (r=(!decide ((bB f p (bD f p)).M=(f p).M) || !((bB f p (bD f p)).H.toList == (f p).H.toList))):=by show _=_;rw[R.i,eT o]
  have ZQ:=ae l;rw[o] at ZZ;clear K u X l R;have Z8:=λW (b:Below (z (A w)) w W)=>qE C g n j_ f p pb po i a1 j W ZQ.i ZP HK.i (ZO.i.aa b ly) (ZM.i.aa b ly) (ZN.i.aa b ly) (aq.i.aa b ZL) (P.i.aa b ly);generalize bB f p (bD f p)=t at x Z8;generalize bD f p=q at x Z8;rw[o] at Z8;have V:=ae Z8;clear Z8;rw[o];go_enter func64,ntmps64;go_wp2_with fail;refine(V.i _ ZZ.i).P ?_;rintro e S⟨rfl,b⟩;have d2:ZW S (T (z (A w)+1) 2 Y)=Q (J I (f p).M):=(b.O (p:=(T (z (A w)+1) 2 Y)) (by simp)).k (by simp[go_sem]);have d3:ZW S (T (z (A w)+1) 3 Y)=Q (U (f p).H):=(b.O (p:=(T (z (A w)+1) 3 Y)) (by simp)).k (by simp[go_sem]);have hz1:z (A w)+1<z (A S):=by have:=b.size;simp at this;omega
  have m:=ae (ZZ.i.k (b.P ZZ.i.size));clear b;simp only[Turn.v];by_cases D:t.M=(f p).M
  ·cases ht:(t.H.toList == (f p).H.toList) with
   |true =>
    obtain rfl:r=ZA:=by rw[x.i];simp[D,ht]
    go_wp2;go_ret;exact⟨rfl,m.i.alloc m.i.size _⟩
   |false =>
    obtain rfl:r=ZH:=by rw[x.i];simp[D,ht]
    go_wp2;go_ret;exact⟨rfl,m.i.alloc m.i.size _⟩
  ·obtain rfl:r=ZH:=by rw[x.i];simp[D]
   have hc2:(t.M == (f p).M)=ZA:=by simpa using D
   go_wp2;go_ret;exact⟨rfl,m.i.alloc m.i.size _⟩
 ·obtain rfl:r=ZA:=by rw[R.i,eI o]
  go_enter func64,ntmps64;go_wp2;go_ret;exact⟨rfl,ZZ.i⟩
def nN (o b n j_:Nat)(f:Nat->au)(l:Link)(w:E)(g:Qv w o b n f)(s:l.ask=ZH->0<=l.G/\l.G.toNat<n):Calls Pg 68 #[ZJ #[Z (Q (T o b Y)) n j_],ZJ #[U l.e,ZF l.ask,ZF l.has,J I l.G]] w λe w'=>e=ZI (ZJ #[ZF (eJ f l).has,J I (eJ f l).M,U (eJ f l).H])/\Below (z (A w)) w w':=by
 have x:=ae g;have q:=ae s;have i:=ae (show eJ f l=if l.ask=ZH then (if (f l.G.toNat).L=1 then ⟨ZH,0,(f l.G.toNat).H⟩ else if (f l.G.toNat).L=3 then ⟨ZH,(f l.G.toNat).M,(f l.G.toNat).H⟩ else ⟨ZA,0,⟨#[]⟩⟩) else ⟨l.has,0,⟨#[]⟩⟩ from rfl);clear g s;obtain⟨R,hR⟩:∃R,R=eJ f l:=⟨_,rfl⟩
 rw[<-hR] at i ⊢;clear hR;obtain⟨nm,ask,r,at_⟩:=l;dsimp only at q i ⊢;have y:=ae ((((BS w).alloc ly (N #[Z (Q (T o b Y)) n j_] 25)).alloc (by simp) (N #[U nm,ZF ask,ZF r,J I at_] 65)).alloc (by simp;omega) (N #[ZF ZA,J I 0,U ⟨#[]⟩] 119));cases ask with
 |false =>
  obtain rfl:R=⟨r,0,⟨#[]⟩⟩:=by have:=i.i;simpa using this
  dsimp only;go_enter func68,ntmps68;go_wp2
  exact bp (v:=ZJ #[ZF r,J I 0,U ⟨#[]⟩]) (by simp[results,YL,go_sem]) rfl ⟨rfl,by
   repeat (first|exact a8 _ _|refine VG ?_ (by simp<;>omega) _)⟩
 |true =>
  obtain⟨h1,h2⟩:=q.i rfl;obtain⟨p,rfl⟩:=p9 h1;have u:p<n:=by simpa using h2
  have h:=ae (show R=if (f p).L=1 then ⟨ZH,0,(f p).H⟩ else if (f p).L=3 then ⟨ZH,(f p).M,(f p).H⟩ else ⟨ZA,0,⟨#[]⟩⟩ by have:=i.i;simpa using this);clear i;obtain⟨p0,p1,p2,p3,⟨a2,cap2,p4,ZZ⟩,⟨a3,cap3,p5,t⟩⟩:=(x.i.aa y.i ly).2 p u;clear ZZ t q;have hpn:(p:Int)<n:=by omega
  go_enter func68,ntmps68;by_cases j:(f p).L=1
  ·obtain rfl:R=⟨ZH,0,(f p).H⟩:=by rw[h.i,eT j]
   go_wp2
   exact bp (v:=ZJ #[ZF ZH,J I 0,U (f p).H]) (by simp[results,YL,go_sem]) rfl ⟨rfl,by
    repeat (first|exact a8 _ _|refine VG ?_ (by simp<;>omega) _)⟩
  ·by_cases m:(f p).L=3
   ·obtain rfl:R=⟨ZH,(f p).M,(f p).H⟩:=by rw[h.i,eI j,eT m]
    go_wp2
    exact bp (v:=ZJ #[ZF ZH,J I (f p).M,U (f p).H]) (by simp[results,YL,go_sem]) rfl ⟨rfl,by
     repeat (first|exact a8 _ _|refine VG ?_ (by simp<;>omega) _)⟩
   ·obtain rfl:R=⟨ZA,0,⟨#[]⟩⟩:=by rw[h.i,eI j,eI m]
    go_wp2
    exact bp (v:=ZJ #[ZF ZA,J I 0,U ⟨#[]⟩]) (by simp[results,YL,go_sem]) rfl ⟨rfl,by
     repeat (first|exact a8 _ _|refine VG ?_ (by simp<;>omega) _)⟩
