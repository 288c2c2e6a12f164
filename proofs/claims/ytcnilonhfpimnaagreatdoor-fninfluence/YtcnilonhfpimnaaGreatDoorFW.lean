import Derived.Test.YtcnilonhfpimnaaGreatDoorFR
import Derived.Deep.WholeRow
import Derived.Deep.DeepCutAuto
set_option linter.all false
set_option maxRecDepth 1000000
set_option maxHeartbeats 8000000
open Go renaming Addr.mk->T,Value.slice->Y,Value.string->U,Value.int->J,Value.bool->ZF,Value.agg->ZJ,Obj.cells->N,IntKind.i64->I,World->E,Value->ZB,TypeId->ZK,Ending.returned->ZI,World.heap->A,World.ownsRow->ZY,World.alloc->ZV,World.cell?->ZW,World.frozen?->ZX,World.setCell->B,Proofs.Tryz.prog->Pg,Calls->Qw
open Option renaming none->Z,some->Q
open Bool renaming false->ZA,true->ZH
open Array renaming size->z
open List renaming length->ZU
namespace Go.Proofs.YtcnilonhfpimnaaGreatDoor.Vp
open Tryz RowKit
variable {w w' u:E}{g base n j_ b p Z9 j l op:Nat}{e:ZK}{m:Mst}{f:Nat->au}{s r:List F_}{y:Nat->aD}{x:F_}{H:Halt}{t:Turn}{a:O_}
def EV (w b:E)(f:Array ZB)(ty:ZK)(ZP:Obj)(j:Nat)(v:ZB)(hz:z (A b)=z (A w))(g:f[j]?=Q v):((b.alloc (N f ty)).alloc ZP).cell? (T (z (A w)) j Z)=Q v:=by rw[<-hz,((a8 (b.alloc (N f ty)).heap.size _).alloc ly ZP).O (p:=(T (z (A b)) j Z)) (by simp)];simp[g]
def kK (m:Mst)(c:Int):Turn:=⟨ZH,c,m.t.e,ZA,⟨#[]⟩,m.j⟩
def Bt{f:ZB}(hM:MAt w b f m)(x:Bool)(c:Int)(t:F_):∃W,ZV (ZV (B (B (B (B (B (B w (T b 55 Z) (ZF ZA)) (T b 56 Z) (J I 0)) (T b 57 Z) (U ⟨#[]⟩)) (T b 58 Z) (ZF ZA)) (T b 59 Z) (U ⟨#[]⟩)) (T b 60 Z) (J I 0)) (N #[ZF x,J I c,U t] 119)) (N #[ZF m.t.K,J I m.t.M,U m.t.H,ZF m.t.ask,U m.t.e,J I m.t.j] 116)=W/\MAt W b f { m with t:=dk }/\zt b w W/\ZW W (T (z (A w)) 0 Z)=Q (ZF x)/\ZW W (T (z (A w)) 1 Z)=Q (J I c)/\ZW W (T (z (A w)) 2 Z)=Q (U t)/\ZW W (T (z (A w)+1) 3 Z)=Q (ZF m.t.ask)/\ZW W (T (z (A w)+1) 4 Z)=Q (U m.t.e)/\(z (A W))=z (A w)+2:=
 ⟨_,rfl,((hM.setTurn dk).al _).al _,((GC (zt.refl b w) dk).al _).al _,EV w _ _ _ _ _ _ (by simp) rfl,EV w _ _ _ _ _ _ (by simp) rfl,EV w _ _ _ _ _ _ (by simp) rfl,kH _ _ _ _ _ _ (by simp) rfl,kH _ _ _ _ _ _ (by simp) rfl,by simp⟩
def nH (m:Mst)(x:Bool)(c:Int)(t:F_):Mst:=
 if m.t.ask=ZA then { m with t:=dk,S:=upd m.S m.size (eU x),size:=m.size+1 } else if x=ZA then { m with t:=kK m 4 } else if (c == 0)=ZA then { m with t:=kK m 5 } else { m with t:=dk,S:=upd m.S m.size t,size:=m.size+1 }
def EY{u:Mst}{x:Bool}{c:Int}{t:F_}(h:u=nH m x c t):(m.t.ask=ZA/\u={ m with t:=dk,S:=upd m.S m.size (eU x),size:=m.size+1 })\/(m.t.ask=ZH/\x=ZA/\u={ m with t:=kK m 4 })\/(m.t.ask=ZH/\x=ZH/\(c == 0)=ZA/\u={ m with t:=kK m 5 })\/(m.t.ask=ZH/\x=ZH/\c=0/\u={ m with t:=dk,S:=upd m.S m.size t,size:=m.size+1 }):=by unfold nH at h;cases ha:m.t.ask<;>cases x<;>cases hc:(c == 0)<;>simp_all
def jp (b:Nat)(i:ZB)(m:Mst)(x:Bool)(c:Int)(t:F_)(w:E)(hM:MAt w b i m)(ZQ:m.size<50):Qw Pg 159 #[.pointer (Q (T b 0 Z)),ZJ #[ZF x,J I c,U t]] w λe w'=>e=ZI (.tuple #[])/\MAt w' b i (nH m x c t)/\zt b w w':=by
 obtain⟨u,s⟩:∃u,u=nH m x c t:=⟨_,rfl⟩
 rw[<-s];have ZZ:=ae (EY s);clear s;have hlt:=hM.lt;obtain⟨⟨c5,ZT⟩,⟨ZR,K⟩,⟨ZS,H⟩,⟨M,L⟩,⟨G,O⟩,Z9,Z8⟩:=hM.turn;obtain⟨W,D,p,n,q0,q1,q2,P,p4,hz⟩:=Bt hM x c t;have y:=ae D;have h:=ae p;have o:=ae n;clear hM D p n;go_enter func159,ntmps159;go_upto_region 4 with fail;rw[y.i];clear y c5 ZR ZS M G Z9 ZT K H L O Z8;have hz0:z (A w)<z (A W):=by omega
 have hz1:z (A w)+1<z (A W):=by omega
 clear hz;rcases ZZ.i with⟨j,rfl⟩|⟨j,rfl,rfl⟩|⟨j,rfl,hc,rfl⟩|⟨j,rfl,rfl,rfl⟩
 all_goals
  rw[j] at P;clear ZZ;go_wp2_with (go_at_call 184;refine(kQ b i { m with t:=dk } _ _ _ h).P ?_;rintro e r⟨rfl,g,f⟩;have q:=ae g;have l:Hid (zt b w r):=o.k f;clear g f)
  (try go_region_with (first|(go_at_call 183;refine(nC _ _).P ?_;rintro e w1⟨rfl,C⟩;subst C)|(go_at_call 182;refine(rh b i { m with t:=dk } _ _ ?_ ZQ).P ?_;(first|exact h|exact h.drew|exact h.drew.drew);rintro e r⟨rfl,g,f⟩;have q:=ae g;have l:Hid (zt b w r):=zt.k (by repeat (first|exact o|apply zt.drew)) f;clear g f)))
  all_goals
   (try go_wp2)
   refine nd rfl rfl ?_;exact⟨rfl,q,l⟩
def zH (b:Nat)(f:ZB)(m:Mst)(x:Bool)(c:Int)(t:F_)(w:E)(hM:MAt w b f m)(g:m.t.ask=ZA)(i:m.size<50):Qw Pg 159 #[.pointer (Q (T b 0 Z)),ZJ #[ZF x,J I c,U t]] w λe w'=>e=ZI (.tuple #[])/\MAt w' b f { m with t:=dk,S:=upd m.S m.size (eU x),size:=m.size+1 }/\zt b w w':=by have h:=jp b f m x c t w hM i;rwa[nH,eT g] at h
def zI (b:Nat)(f:ZB)(m:Mst)(t:F_)(w:E)(hM:MAt w b f m)(g:m.t.ask=ZH)(i:m.size<50):Qw Pg 159 #[.pointer (Q (T b 0 Z)),ZJ #[ZF ZH,J I 0,U t]] w λe w'=>e=ZI (.tuple #[])/\MAt w' b f { m with t:=dk,S:=upd m.S m.size t,size:=m.size+1 }/\zt b w w':=by have h:=jp b f m ZH 0 t w hM i;rwa[nH,eI (by simp[g]),eI (by simp),eI (by simp)] at h
def rH (b:Nat)(f:ZB)(m:Mst)(c:Int)(t:F_)(w:E)(hM:MAt w b f m)(g:m.t.ask=ZH)(i:m.size<50):Qw Pg 159 #[.pointer (Q (T b 0 Z)),ZJ #[ZF ZA,J I c,U t]] w λe w'=>e=ZI (.tuple #[])/\MAt w' b f { m with t:=kK m 4 }/\zt b w w':=by have h:=jp b f m ZA c t w hM i;rwa[nH,eI (by simp[g]),eT rfl] at h
def vb (b:Nat)(f:ZB)(m:Mst)(c:Int)(t:F_)(w:E)(hM:MAt w b f m)(i:m.t.ask=ZH)(g:(c == 0)=ZA)(j:m.size<50):Qw Pg 159 #[.pointer (Q (T b 0 Z)),ZJ #[ZF ZH,J I c,U t]] w λe w'=>e=ZI (.tuple #[])/\MAt w' b f { m with t:=kK m 5 }/\zt b w w':=by have h:=jp b f m ZH c t w hM j;rwa[nH,eI (by simp[i]),eI (by simp),eT g] at h
def m0:Mst:={ S:=λ_=>⟨#[]⟩,size:=0,av:=0,j:=0,D:=0,t:=dk }
def fD (b:ZB):Array ZB:=(Array.range 61).map (m0.F b)
def Bu (a:O_)(n j_:Nat):Pg.built 240 [(1,Y a n j_)]=Q (fD (Y a n j_)):=by kernel_rfl
def infoM:(Pg.info? 240).map (·.size)=Q 61:=by kernel_rfl
def jq (b:ZB):(fD b).size=61:=by simp[fD]
def EZ (b:ZB)(j:Nat)(h:j<61):(fD b)[j]?=Q (m0.F b j):=by simp[fD,h]
def sK (a:O_)(n j_:Nat):(fD (Y a n j_)).all (·.oneCell')=ZH:=by kernel_rfl
def vd (w:E)(a:O_)(n j_:Nat):MAt (w.alloc (N (fD (Y a n j_)) 240)) (z (A w)) (Y a n j_) m0:=by
 refine⟨by simp,λj b=>⟨?_,?_⟩⟩;{rw[World.cell?_alloc_new];exact EZ _ j b};{simp}
def ve{P:Program}{f:Array Oper}{rest:List Oper}{o:Oper}{a:Act}{ZO:Exit->Act->E->Prop}(m:o.guard=Z)(t:ZK)(b:Array (Nat × Operand))(j:o.op=.build t b)
  (l:List (Nat × ZB)) (cells:Array ZB) (g:(b.map λ(i,x)=>(i,a.eval x)).toList=l) (hb:P.built t l=Q cells) (h:wpList P f ZO rest (a.put o.dst (ZJ cells)) w):wpList P f ZO (o::rest) a w:=by
 refine wpList_build m t b j (by rw[g,hb];rfl) ?_;rw[g,hb];exact h
def Pow.lt (h:Pow w):2<z (A w):=by
 have f:=TZ gPow h 0;rcases OR 2 (z (A w)) with b|b;{exact b};{simp[World.cell?,PL b,Lib.pow10Tab] at f}
def Sim.push{st:Nat}(b:Sim m p st l s)(x:F_)(f:x.size<=2000)(hl:ZU s<50):Sim { m with t:=dk,S:=upd m.S m.size x,size:=m.size+1 } p st l (x::s):=
 ⟨by rw[b.size];exact b.rep.push x,by simp[b.size],by simp;omega,b.hpl,b.hst,b.hlk,λZZ hz=>by
  rcases vG.1 hz with rfl|hz
  ·exact f
  ·exact b.le ZZ hz,b.pl,b.st,b.lk⟩
def jr (b:Bool):(eU b).size<=2000:=by cases b<;>decide
def Six (w:E)(g:Nat):Prop:=g<z (A w)/\∀j,j<6->∃v,ZW w (T g j Z)=Q v/\ZX w (T g j Z)=ZA
def Six.aa{f:E}(h:Six w g)(b:Below Z9 w f)(i:g<Z9):Six f g:=⟨lj h.1 b.size,λj l=>by
 obtain⟨v,h1,h2⟩:=h.2 j l
 exact⟨v,(b.O (p:=(T g j Z)) i).k h1,(b.frozen (p:=(T g j Z)) i).k h2⟩⟩
def Six.ac{i:E}(h:Six w g)(f:zt b w i)(l:g≠b):Six i g:=⟨lj h.1 f.size,λj m=>by
 obtain⟨v,h1,h2⟩:=h.2 j m
 exact⟨v,(f.O g j h.1 l).k h1,(f.frozen g j h.1 l).k h2⟩⟩
def lm (w:E)(v0 v1 v2 v3 v4 v5:ZB)(t:ZK):Six (ZV w (N #[v0,v1,v2,v3,v4,v5] t)) (z (A w)):=⟨by simp,λj hj=>by
 rcases(show j=0\/j=1\/j=2\/j=3\/j=4\/j=5 by omega) with rfl|rfl|rfl|rfl|rfl|rfl
 all_goals exact⟨_,by simp;rfl,by simp⟩⟩
def fX (h:Below Z9 u w)(b:Z9<=g)(v0 v1 v2 v3 v4 v5:ZB):Below Z9 u (B (B (B (B (B (B w (T g 0 Z) v0) (T g 1 Z) v1) (T g 2 Z) v2) (T g 3 Z) v3) (T g 4 Z) v4) (T g 5 Z) v5):=
 (((((h.setCell b v0).setCell b v1).setCell b v2).setCell b v3).setCell b v4).setCell b v5
def Goes (f:Nat->Ins)(yh:Nat)(m:Mst)(H:Halt):Prop:=(m.t=dk/\∃p k l s,Sim m p k l s/\lW f yh (2001 - k) p k l s=Q H)\/fh m H
def badT:Turn:=⟨ZA,9,⟨#[]⟩,ZA,⟨#[]⟩,0⟩
def oB (f:Nat->Ins)(yh:Nat)(y:Nat->aD)(n:Nat):Turn:=if valid f yh=ZA then badT else if 200<n then badT else if bU y n=ZA then badT else cA f yh y n 2001 0 0 0 []
def pw{f:Nat->Ins}{yh:Nat}{st:Nat}(g:m.t=dk)(b:Sim m p st l s):∃H,Goes f yh m H/\gP l H/\∀y n,eC f yh y n H=cA f yh y n (2001 - st) p st l s:=by obtain⟨H,hH⟩:=sJ f yh (2001 - st) p st l s b.st (by have:=b.st;omega);exact⟨H,.inl ⟨g,p,st,l,s,b,hH⟩,(pr f yh (λ_=>⟨ZA,0,⟨#[]⟩⟩) 0 _ p st l s H b.st rfl hH).2,λy n=>(pr f yh y n _ p st l s H b.st rfl hH).1.c⟩
def xn (b:Nat)(q:ZB)(f:Nat->Ins)(yh:Nat)(m:Mst)(a:Bool)(nm:F_)(s:List F_)(p st l:Nat)(r:aD)(w:E)(hM:MAt w b q m)(H:fh m (.inr (a,nm,s,p,st,l)))(hl:1<=l)(ZS:r.H.size<=2000):Qw Pg 159 #[.pointer (Q (T b 0 Z)),ZJ #[ZF r.has,J I r.M,U r.H]] w λe w'=>e=ZI (.tuple #[])/\∃ZT h,MAt w' b q ZT/\Goes f yh ZT h/\gP l h/\(∀y n,l<=n->y (l - 1)=r->eC f yh y n (.inr (a,nm,s,p,st,l))=eC f yh y n h)/\zt b w w':=by
 obtain⟨G,u,hnm,D⟩:=H;have x:m.t.ask=a:=by rw[G]
 have ZZ:m.t.e=nm:=by rw[G]
 have hz:m.size<50:=by rw[u.size];exact D
 cases a with
 |false =>refine(zH b q m r.has r.M r.H w hM x hz).P ?_;rintro e w'⟨rfl,g,j⟩;obtain⟨h,C,Z9,Z8⟩:=pw (f:=f) (yh:=yh) (m:={ m with t:=dk,S:=upd m.S m.size (eU r.has),size:=m.size+1 }) rfl (u.push (eU r.has) (jr _) D);refine⟨rfl,_,h,g,C,Z9,λy n hn i=>?_,j⟩;rw[Z8 y n];simp only[eC,i];rw[eI (by omega),eT trivial]
 |true =>
  by_cases h1:r.has=ZA;{rw[h1];refine(rH b q m r.M r.H w hM x hz).P ?_;rintro e w'⟨rfl,g,j⟩;refine⟨rfl,_,.inl (4,nm,st),g,.inr ?_,trivial,λy n hn i=>?_,j⟩;{show kK m 4=_;simp only[kK,ZZ,u.hst]};{simp only[eC,i];rw[eI (by omega)];simp[h1]}}
  ·have o:r.has=ZH:=by simpa using h1
   by_cases h2:r.M=0;{rw[o,h2];refine(zI b q m r.H w hM x hz).P ?_;rintro e w'⟨rfl,g,j⟩;obtain⟨h,C,Z9,Z8⟩:=pw (f:=f) (yh:=yh) (m:={ m with t:=dk,S:=upd m.S m.size r.H,size:=m.size+1 }) rfl (u.push r.H ZS D);refine⟨rfl,_,h,g,C,Z9,λy n hn i=>?_,j⟩;rw[Z8 y n];simp only[eC,i];rw[eI (by omega)];simp[o,h2]};{rw[o];refine(vb b q m r.M r.H w hM x (by simpa using h2) hz).P ?_;rintro e w'⟨rfl,g,j⟩;refine⟨rfl,_,.inl (5,nm,st),g,.inr ?_,trivial,λy n hn i=>?_,j⟩;{show kK m 5=_;simp only[kK,ZZ,u.hst]};{simp only[eC,i];rw[eI (by omega)];simp[o,h2]}}
def Bv (f g yh j_:Nat)(w:E):Qw Pg 136 #[ZJ #[Y (Q (T f g Z)) yh j_]] w λe w'=>∃b,e=ZI (.func (.func 158) #[] #[.pointer (Q (T b 0 Z))])/\(z (A w))<=b/\MAt w' b (Y (Q (T f g Z)) yh j_) m0/\Below (z (A w)) w w':=by
 have h:=ae ((BS w).alloc ly (N #[Y (Q (T f g Z)) yh j_] 37));have k0:ZW (ZV w (N #[Y (Q (T f g Z)) yh j_] 37)) (T (z (A w)) 0 Z)=Q (Y (Q (T f g Z)) yh j_):=by simp
 have z0:z (A (ZV w (N #[Y (Q (T f g Z)) yh j_] 37)))=z (A w)+1:=by simp
 have j:=ae (vd (ZV w (N #[Y (Q (T f g Z)) yh j_] 37)) (Q (T f g Z)) yh j_);have i:=ae (by have:=j.i;rw[z0] at this;exact this);have l:=ae (h.alloc h.size (N (fD (Y (Q (T f g Z)) yh j_)) 240));go_enter func136,ntmps136
 go_wp2_with (first
  |(refine ve rfl 240 #[(1,.tmp 5)] rfl [(1,Y (Q (T f g Z)) yh j_)] (fD (Y (Q (T f g Z)) yh j_)) (by simp[Act.eval]) (Bu _ _ _) ?_)
  |(refine wpList_store_row rfl 240 (.tmp 3) (.tmp 6) rfl (z (A w)+1) (fD (Y (Q (T f g Z)) yh j_)) rfl rfl _ _ (by rw[<-z0];exact heap_alloc_last _ _) (infoM.k (by rw[jq])) (by rw[jq];rfl) (sK _ _ _) ?_;rw[<-z0,World.setRow_alloc_new])
  |fail)
 go_ret;exact⟨_,rfl,by first|(simp;done)|(simp;omega),i,l⟩
def qD (b o n yh j_:Nat)(f:Nat->Ins)(m:Mst)(H:Halt)(r:aD)(w:E)(hM:MAt w b (Y (Q (T o n Z)) yh j_) m)(y:Env w b o n yh f)(hn:m.t.e=⟨#[]⟩)(hc:yh<=200)(ZZ:dn f yh=ZH)(G:Goes f yh m H):Qw Pg 158 #[ZJ #[ZF r.has,J I r.M,U r.H],.pointer (Q (T b 0 Z))] w λe w'=>∃x,e=ZI x.t.v/\MAt w' b (Y (Q (T o n Z)) yh j_) x/\fh x H/\zt b w w':=by
 have ZT:=hM.lt;have i:=ae ((hM.al (N #[ZF r.has,J I r.M,U r.H] 119)).al (N #[ZF ZA,J I 0,U ⟨#[]⟩,ZF ZA,U ⟨#[]⟩,J I 0] 116));have j:=ae (((zt.refl b w).al (N #[ZF r.has,J I r.M,U r.H] 119)).al (N #[ZF ZA,J I 0,U ⟨#[]⟩,ZF ZA,U ⟨#[]⟩,J I 0] 116));have l:=lm (ZV w (N #[ZF r.has,J I r.M,U r.H] 119)) (ZF ZA) (J I 0) (U ⟨#[]⟩) (ZF ZA) (U ⟨#[]⟩) (J I 0) 116;rw[show(z (A (ZV w (N #[ZF r.has,J I r.M,U r.H] 119))))=z (A w)+1 by simp] at l;have Z9:=ae l;have ZN:=ae y;have HG:=ae G;obtain⟨⟨c5,O⟩,⟨ZP,ZL⟩,⟨S,ZO⟩,⟨c8,z8⟩,⟨C,z9⟩,L,K⟩:=i.turn;rw[hn] at C;clear hM y G l c5 O ZP ZL S ZO c8 z8 z9 L K;go_enter func158,ntmps158;go_wp2_with fail;clear C;generalize World.alloc (World.alloc w _) _=ZM at i j Z9 ⊢;have hb0:b<z (A ZM):=i.lt;refine(x9 b o n yh j_ f m H _ i (ZN.ac ZT j) hc ZZ HG).P ?_;rintro e w3⟨g,rfl,u,q,s⟩;have p:=ae s;clear s;have ZS:=ae (Z9.ac p (by omega));have hx3:z (A w)+1<z (A w3):=ZS.1;have D:=ae u;have Z8:=ae q;have ZR:=ae (j.k p);clear u q;obtain⟨⟨v0,V,y0⟩,⟨v1,W,y1⟩,⟨v2,ZQ,y2⟩,⟨v3,M,y3⟩,⟨v4,R,y4⟩,⟨v5,P,y5⟩⟩:=bl6 ZS.2;have h:z (A w)+1≠b:=by omega
 have X:=ae ((((((D.other (z (A w)+1) 0 (ZF g.t.K) h).other (z (A w)+1) 1 (J I g.t.M) h).other (z (A w)+1) 2 (U g.t.H) h).other (z (A w)+1) 3 (ZF g.t.ask) h).other (z (A w)+1) 4 (U g.t.e) h).other (z (A w)+1) 5 (J I g.t.j) h);have OO:=ae ((((((ZR.am (z (A w)+1) 0 (ZF g.t.K) (by omega)).am (z (A w)+1) 1 (J I g.t.M) (by omega)).am (z (A w)+1) 2 (U g.t.H) (by omega)).am (z (A w)+1) 3 (ZF g.t.ask) (by omega)).am (z (A w)+1) 4 (U g.t.e) (by omega)).am (z (A w)+1) 5 (J I g.t.j) (by omega));simp only[Turn.v];go_wp2;exact bp (v:=g.t.v) (by simp[results,results158,go_sem,Turn.v,V,W,ZQ,M,R,P]) rfl ⟨g,rfl,X,Z8,OO⟩
def sL (b q ZZ yh j_:Nat)(f:Nat->Ins)(m:Mst)(a:Bool)(nm:F_)(s:List F_)(p st l:Nat)(r:aD)(w:E)(hM:MAt w b (Y (Q (T q ZZ Z)) yh j_) m)(ZP:Env w b q ZZ yh f)(Z8:fh m (.inr (a,nm,s,p,st,l)))(hl:1<=l)(hr:r.H.size<=2000)(hc:yh<=200)(X:dn f yh=ZH):Qw Pg 158 #[ZJ #[ZF r.has,J I r.M,U r.H],.pointer (Q (T b 0 Z))] w λe w'=>∃ZQ o,e=ZI ZQ.t.v/\MAt w' b (Y (Q (T q ZZ Z)) yh j_) ZQ/\fh ZQ o/\gP l o/\(∀y n,l<=n->y (l - 1)=r->eC f yh y n (.inr (a,nm,s,p,st,l))=eC f yh y n o)/\zt b w w':=by
 have R:=hM.lt;have j:=ae ((hM.al (N #[ZF r.has,J I r.M,U r.H] 119)).al (N #[ZF ZA,J I 0,U ⟨#[]⟩,ZF ZA,U ⟨#[]⟩,J I 0] 116));have u:=ae (((zt.refl b w).al (N #[ZF r.has,J I r.M,U r.H] 119)).al (N #[ZF ZA,J I 0,U ⟨#[]⟩,ZF ZA,U ⟨#[]⟩,J I 0] 116));have x:=lm (ZV w (N #[ZF r.has,J I r.M,U r.H] 119)) (ZF ZA) (J I 0) (U ⟨#[]⟩) (ZF ZA) (U ⟨#[]⟩) (J I 0) 116;rw[show(z (A (ZV w (N #[ZF r.has,J I r.M,U r.H] 119))))=z (A w)+1 by simp] at x;have ZL:=ae x;have HE:=ae ZP;have HS:=ae Z8;have G:m.t.e=nm:=by have:=Z8.1;rw[this]
 have i:nm.toList.isEmpty=ZA:=by
  have hn:=Z8.2.2.1;have h0:¬ nm.size=0:=by simp only[aA,j6,nD] at hn;omega
  have:=mX h0;cases h:nm.toList with
  |nil=>exact absurd h this
  |cons _ _=>rfl
 obtain⟨⟨c5,z5⟩,⟨c6,z6⟩,⟨c7,z7⟩,⟨c8,z8⟩,⟨ZO,z9⟩,S,V⟩:=j.turn;rw[G] at ZO;clear hM ZP Z8 x G c5 z5 c6 z6 c7 z7 c8 z8 z9 S V;go_enter func158,ntmps158;go_wp2_with fail;clear ZO i;generalize World.alloc (World.alloc w _) _=W0 at j u ZL ⊢;have hb0:b<z (A W0):=j.lt;refine(xn b (Y (Q (T q ZZ Z)) yh j_) f yh m a nm s p st l r _ j HS hl hr).P ?_;rintro e w1⟨rfl,m1,o,M,C,ZT,D,H⟩;have ex:=ae M;have bt:=ae C;have W:=ae ZT;have P:=ae D;have L:=ae H;clear M C ZT D H;go_wp2_with fail;refine(x9 b q ZZ yh j_ f m1 o _ ex (HE.ac R (u.k L)) hc X bt).P ?_;rintro e w3⟨g,rfl,K,ZR,Z9⟩;have ZS:=ae (L.k Z9);clear Z9;have ZN:=ae (ZL.ac ZS (by omega));have hx3:z (A w)+1<z (A w3):=ZN.1;have aq:=ae K;have O:=ae ZR;have ZM:=ae (u.k ZS);clear K ZR;obtain⟨⟨v0,q0,y0⟩,⟨v1,q1,y1⟩,⟨v2,q2,y2⟩,⟨v3,q3,y3⟩,⟨v4,q4,y4⟩,⟨v5,q5,y5⟩⟩:=bl6 ZN.2;have i:z (A w)+1≠b:=by omega
 have MM:=ae ((((((aq.other (z (A w)+1) 0 (ZF g.t.K) i).other (z (A w)+1) 1 (J I g.t.M) i).other (z (A w)+1) 2 (U g.t.H) i).other (z (A w)+1) 3 (ZF g.t.ask) i).other (z (A w)+1) 4 (U g.t.e) i).other (z (A w)+1) 5 (J I g.t.j) i);have OO:=ae ((((((ZM.am (z (A w)+1) 0 (ZF g.t.K) (by omega)).am (z (A w)+1) 1 (J I g.t.M) (by omega)).am (z (A w)+1) 2 (U g.t.H) (by omega)).am (z (A w)+1) 3 (ZF g.t.ask) (by omega)).am (z (A w)+1) 4 (U g.t.e) (by omega)).am (z (A w)+1) 5 (J I g.t.j) (by omega));simp only[Turn.v];go_wp2;exact bp (v:=g.t.v) (by simp[results,results158,go_sem,Turn.v,q0,q1,q2,q3,q4,q5]) rfl ⟨g,o,rfl,MM,O,W,P,OO⟩
def oP{f:Nat->Ins}{yh i:Nat}(b:fh m H)(hL:gP i H):eC f yh y i H=m.t:=by
 rcases H with⟨c,x,k⟩|⟨a,nm,s,p,k,l⟩
 {exact(show m.t=⟨ZH,c,x,ZA,⟨#[]⟩,k⟩ from b).c};{have g:l=i+1:=hL;subst g;simp only[eC,QR];rw[eT ly ];exact b.1.c}
def oQ (f:fh m H)(b:m.t.K=ZA):∃a nm s p k l,H=.inr (a,nm,s,p,k,l):=by
 rcases H with⟨c,x,k⟩|⟨a,nm,s,p,k,l⟩
 {have:m.t=⟨ZH,c,x,ZA,⟨#[]⟩,k⟩:=f;rw[this] at b;simp at b};{exact⟨a,nm,s,p,k,l,rfl⟩}
def TurnBox (w:E)(g:Nat)(t:Turn):Prop:=g<z (A w)/\(ZW w (T g 0 Z)=Q (ZF t.K)/\ZW w (T g 1 Z)=Q (J I t.M)/\ZW w (T g 2 Z)=Q (U t.H)/\ZW w (T g 3 Z)=Q (ZF t.ask)/\ZW w (T g 4 Z)=Q (U t.e)/\ZW w (T g 5 Z)=Q (J I t.j))/\∀j,ZX w (T g j Z)=ZA
def TurnBox.aa (h:TurnBox w g t)(hb:Below Z9 w w')(b:g<Z9):TurnBox w' g t:=by obtain⟨h1,⟨c0,c1,c2,c3,c4,c5⟩,hz⟩:=h;exact⟨lj h1 hb.size,⟨(hb.O (p:=(T g _ Z)) b).k c0,(hb.O (p:=(T g _ Z)) b).k c1,(hb.O (p:=(T g _ Z)) b).k c2,(hb.O (p:=(T g _ Z)) b).k c3,(hb.O (p:=(T g _ Z)) b).k c4,(hb.O (p:=(T g _ Z)) b).k c5⟩,λj=>(hb.frozen (p:=(T g j Z)) b).k (hz j)⟩
def TurnBox.ac (h:TurnBox w g t)(f:zt b w w')(i:g≠b):TurnBox w' g t:=by obtain⟨h1,⟨c0,c1,c2,c3,c4,c5⟩,hz⟩:=h;exact⟨lj h1 f.size,⟨(f.O g _ h1 i).k c0,(f.O g _ h1 i).k c1,(f.O g _ h1 i).k c2,(f.O g _ h1 i).k c3,(f.O g _ h1 i).k c4,(f.O g _ h1 i).k c5⟩,λj=>(f.frozen g j h1 i).k (hz j)⟩
def E7 (w:E)(t:Turn)(ty:ZK):TurnBox (ZV w (N #[ZF t.K,J I t.M,U t.H,ZF t.ask,U t.e,J I t.j] ty)) (z (A w)) t:=
 ⟨by simp,⟨by simp,by simp,by simp,by simp,by simp,by simp⟩,λj=>by simp⟩
def fY (w:E)(g:Nat)(t:Turn):E:=B (B (B (B (B (B w (T g 0 Z) (ZF t.K)) (T g 1 Z) (J I t.M)) (T g 2 Z) (U t.H)) (T g 3 Z) (ZF t.ask)) (T g 4 Z) (U t.e)) (T g 5 Z) (J I t.j)
def Hk{u:Turn}(t:Turn)(h:TurnBox w g u):TurnBox (fY w g t) g t:=by obtain⟨h1,⟨c0,c1,c2,c3,c4,c5⟩,hz⟩:=h;refine⟨by simpa[fY] using h1,⟨?_,?_,?_,?_,?_,?_⟩,λj=>by simpa[fY] using hz j⟩;all_goals simp[fY,go_sem,c0,c1,c2,c3,c4,c5]
def vf (t:Turn):zt g w (fY w g t):=ce (ce (ce (ce (ce (ce (zt.refl g w) 0 _) 1 _) 2 _) 3 _) 4 _) 5 _
def MAt.boxed{i:ZB}(h:MAt w b i m)(f:g≠b)(t:Turn):MAt (fY w g t) b i m:=
 (((((h.other g 0 (ZF t.K) f).other g 1 (J I t.M) f).other g 2 (U t.H) f).other g 3 (ZF t.ask) f).other g 4 (U t.e) f).other g 5 (J I t.j) f
abbrev ec (at_:Int)(sv:ZB)(st lk:Int)(f:Bool)(c:Int)(x:F_)(ask:Bool)(nm:F_)(b:Bool):ZB:=
 ZJ #[J I at_,sv,J I st,J I lk,ZF f,J I c,U x,ZF ask,U nm,ZF b]
def dS (h:Below Z9 u w)(b:Z9<=g)(v0 v1 v2 v3 v4 v5 v6 v7 v8 v9:ZB):Below Z9 u (B (B (B (B (B (B (B (B (B (B w (T g 0 Z) v0) (T g 1 Z) v1) (T g 2 Z) v2) (T g 3 Z) v3) (T g 4 Z) v4) (T g 5 Z) v5) (T g 6 Z) v6) (T g 7 Z) v7) (T g 8 Z) v8) (T g 9 Z) v9):=
 (((((((((h.setCell b v0).setCell b v1).setCell b v2).setCell b v3).setCell b v4).setCell b v5).setCell b v6).setCell b v7).setCell b v8).setCell b v9
def fN (at_:Int)(a:O_)(n j_:Nat)(st lk:Int)(f:Bool)(c0:Int)(g:F_)(ask:Bool)(nm:F_)(b:Bool)(c:Int)(x:F_)(w:E):Qw Pg 141 #[ec at_ (Y a n j_) st lk f c0 g ask nm b,J I c,U x] w λe w'=>e=ZI (ec at_ (Y a n j_) st lk ZH c x ask nm b)/\Below (z (A w)) w w':=by go_enter func141,ntmps141;go_wp2;refine bp (v:=ec at_ (Y a n j_) st lk ZH c x ask nm b) (by simp[results,results141,go_sem]) rfl ⟨rfl,(br.alloc ly _).alloc (by simp) _⟩
def xo (op:Nat)(w:E)(h1:1<=op)(h15:op<=15):Qw Pg 142 #[J I op] w λe w'=>e=ZI (.tuple #[J I (aX op),J I (bN op)])/\w'=w:=by
 rcases(show op=1\/op=2\/op=3\/op=4\/op=5\/op=6\/op=7\/op=8\/op=9\/op=10\/op=11\/op=12\/op=13\/op=14\/op=15 by omega) with rfl|rfl|rfl|rfl|rfl|rfl|rfl|rfl|rfl|rfl|rfl|rfl|rfl|rfl|rfl;all_goals
  go_enter func142,ntmps142;go_wp2;refine bp (v:=.tuple #[J I (aX _),J I (bN _)]) (by simp[results,results142,go_sem,aX,bN]) rfl ⟨rfl,rfl⟩
def cB (op n:Nat)(t a b:F_):List F_:=
 match op with
 |1=>[t]
 |2=>[b++a]
 |3=>[if n<a.size then a.extract 0 n else a]
 |4=>[if n<a.size then a.extract n a.size else ⟨#[]⟩]
 |5=>[fV a n]
 |6=>[eU (a.toList == b.toList)]
 |7=>[a,a]
 |8=>[a,b]
 |_=>[]
def nI (w:E)(x:F_)(g:Nat)(b:g=z (A w)):RowStr (ZV w (N #[U x] 9)) g 0 1 (λi=>[x].getD i ⟨#[]⟩):=by
 subst b
 exact⟨by simp,λi hi=>by
  obtain rfl:i=0:=by omega
  simp⟩
def IU (w:E)(x y:F_)(g:Nat)(b:g=z (A w)):RowStr (ZV w (N #[U x,U y] 9)) g 0 2 (λi=>[x,y].getD i ⟨#[]⟩):=by subst b;exact⟨by simp,λi hi=>by rcases(show i=0\/i=1 by omega) with rfl|rfl<;>simp⟩
def xp (op n:Nat)(t a b:F_)(w:E)(h1:1<=op)(h8:op<=8)(o:a.size<=2000)(hb:b.size<=2000)(hn:n<=2000):Qw Pg 144 #[ZJ #[J I op,U t,J I n],U a,U b] w λe w'=>∃g,e=ZI (Y (Q (T g 0 Z)) (cB op n t a b).length (cB op n t a b).length)/\RowStr w' g 0 (cB op n t a b).length (λi=>(cB op n t a b).getD i ⟨#[]⟩)/\(z (A w))<=g/\Below (z (A w)) w w':=by
 have f:=ae ((BS w).alloc ly (N #[J I op,U t,J I n] 102));rcases(show op=1\/op=2\/op=3\/op=4\/op=5\/op=6\/op=7\/op=8 by omega) with rfl|rfl|rfl|rfl|rfl|rfl|rfl|rfl;{go_enter RH,QU;go_wp2;go_ret;exact⟨_,rfl,nI _ t _ (by simp),by simp,f.alloc (by simp) _⟩};{go_enter RH,QU;go_wp2;go_ret;exact⟨_,rfl,nI _ (b++a) _ (by simp),by simp,f.alloc (by simp) _⟩}
 ·by_cases h:(n:Int)<a.size
  ·have e:cB 3 n t a b=[a.extract 0 n]:=by simp[cB];omega
   rw[e];clear e;go_enter RH,QU;go_wp2;go_ret;exact⟨_,rfl,nI _ _ _ (by simp),by simp,f.alloc (by simp) _⟩
  ·have e:cB 3 n t a b=[a]:=by simp[cB];omega
   rw[e];clear e;go_enter RH,QU;go_wp2;go_ret;exact⟨_,rfl,nI _ _ _ (by simp),by simp,f.alloc (by simp) _⟩
 ·by_cases h:(n:Int)<a.size
  ·have e:cB 4 n t a b=[a.extract n a.size]:=by simp[cB];omega
   rw[e];clear e;go_enter RH,QU;go_wp2;go_ret;exact⟨_,rfl,nI _ _ _ (by simp),by simp,f.alloc (by simp) _⟩
  ·have e:cB 4 n t a b=[⟨#[]⟩]:=by simp[cB];omega
   rw[e];clear e;go_enter RH,QU;go_wp2;go_ret;exact⟨_,rfl,nI _ _ _ (by simp),by simp,f.alloc (by simp) _⟩
 {go_enter RH,QU;go_wp2_with fail;refine(xh a n _ o hn).P ?_;rintro e m⟨rfl,j⟩;have l:=ae (f.k (j.P (by simp)));clear j;go_wp2;go_ret;exact⟨_,rfl,nI _ (fV a n) _ rfl,l.size,l.alloc l.size _⟩};{go_enter RH,QU;go_wp2_with fail;refine(qx _ _).P ?_;rintro e m⟨rfl,rfl⟩;go_wp2;go_ret;exact⟨_,rfl,nI _ (eU (a.toList == b.toList)) _ (by simp),by simp,f.alloc (by simp) _⟩};{go_enter RH,QU;go_wp2;go_ret;exact⟨_,rfl,IU _ a a _ (by simp),by simp,f.alloc (by simp) _⟩};{go_enter RH,QU;go_wp2;go_ret;exact⟨_,rfl,IU _ a b _ (by simp),by simp,f.alloc (by simp) _⟩}
def Ten (w:E)(g:Nat)(v0 v1 v2 v3 v4 v5 v6 v7 v8 v9:ZB):Prop:=g<z (A w)/\(ZW w (T g 0 Z)=Q v0/\ZX w (T g 0 Z)=ZA)/\(ZW w (T g 1 Z)=Q v1/\ZX w (T g 1 Z)=ZA)/\(ZW w (T g 2 Z)=Q v2/\ZX w (T g 2 Z)=ZA)/\(ZW w (T g 3 Z)=Q v3/\ZX w (T g 3 Z)=ZA)/\(ZW w (T g 4 Z)=Q v4/\ZX w (T g 4 Z)=ZA)/\(ZW w (T g 5 Z)=Q v5/\ZX w (T g 5 Z)=ZA)/\(ZW w (T g 6 Z)=Q v6/\ZX w (T g 6 Z)=ZA)/\(ZW w (T g 7 Z)=Q v7/\ZX w (T g 7 Z)=ZA)/\(ZW w (T g 8 Z)=Q v8/\ZX w (T g 8 Z)=ZA)/\(ZW w (T g 9 Z)=Q v9/\ZX w (T g 9 Z)=ZA)
section
variable {w w':E}{g:Nat}{v0 v1 v2 v3 v4 v5 v6 v7 v8 v9:ZB}
def Ten.of_block (h:Ten w g v0 v1 v2 v3 v4 v5 v6 v7 v8 v9)(hz:z (A w)<=z (A w'))(hb:w'.heap[g]?=w.heap[g]?):Ten w' g v0 v1 v2 v3 v4 v5 v6 v7 v8 v9:=by have f:∀o,ZW w' (T g o Z)=ZW w (T g o Z):=λo=>cq (a:=(T g o Z)) hb;have b:∀o,ZX w' (T g o Z)=ZX w (T g o Z):=λo=>NF (a:=(T g o Z)) hb;unfold Ten at h ⊢;simp only[f,b];exact⟨lj h.1 hz,h.2⟩
def Ten.aa (h:Ten w g v0 v1 v2 v3 v4 v5 v6 v7 v8 v9)(hb:Below Z9 w w')(b:g<Z9):Ten w' g v0 v1 v2 v3 v4 v5 v6 v7 v8 v9:=h.of_block hb.size (hb.p g b)
def Ten.grown{row:Option Nat}(h:Ten w g v0 v1 v2 v3 v4 v5 v6 v7 v8 v9)(hb:w.grownBy w' row)(b:Q g≠row):Ten w' g v0 v1 v2 v3 v4 v5 v6 v7 v8 v9:=h.of_block hb.size (hb.p g h.1 b)
def Ten.al (h:Ten w g v0 v1 v2 v3 v4 v5 v6 v7 v8 v9)(o:Obj):Ten (w.alloc o) g v0 v1 v2 v3 v4 v5 v6 v7 v8 v9:=h.aa ((BS w).alloc ly o) h.1
def Ten.other (h:Ten w g v0 v1 v2 v3 v4 v5 v6 v7 v8 v9)(p:Addr)(u:ZB)(b:p.block≠g):Ten (w.setCell p u) g v0 v1 v2 v3 v4 v5 v6 v7 v8 v9:=h.of_block (by simp) (qh w p u g (λe=>b e.c))
end
def lp (w:E)(v0 v1 v2 v3 v4 v5 v6 v7 v8 v9:ZB)(t:ZK)(g:Nat)(b:g=z (A w)):Ten (ZV w (N #[v0,v1,v2,v3,v4,v5,v6,v7,v8,v9] t)) g v0 v1 v2 v3 v4 v5 v6 v7 v8 v9:=by subst b;simp[Ten]
section
variable {w:E}{g:Nat}{v0 v1 v2 v3 v4 v5 v6 v7 v8 v9:ZB}
def Ten.sets (h:Ten w g v0 v1 v2 v3 v4 v5 v6 v7 v8 v9)(u:ZB):Ten (B w (T g 0 Z) u) g u v1 v2 v3 v4 v5 v6 v7 v8 v9/\Ten (B w (T g 1 Z) u) g v0 u v2 v3 v4 v5 v6 v7 v8 v9/\Ten (B w (T g 2 Z) u) g v0 v1 u v3 v4 v5 v6 v7 v8 v9/\Ten (B w (T g 3 Z) u) g v0 v1 v2 u v4 v5 v6 v7 v8 v9/\Ten (B w (T g 4 Z) u) g v0 v1 v2 v3 u v5 v6 v7 v8 v9/\Ten (B w (T g 5 Z) u) g v0 v1 v2 v3 v4 u v6 v7 v8 v9/\Ten (B w (T g 6 Z) u) g v0 v1 v2 v3 v4 v5 u v7 v8 v9/\Ten (B w (T g 7 Z) u) g v0 v1 v2 v3 v4 v5 v6 u v8 v9/\Ten (B w (T g 8 Z) u) g v0 v1 v2 v3 v4 v5 v6 v7 u v9/\Ten (B w (T g 9 Z) u) g v0 v1 v2 v3 v4 v5 v6 v7 v8 u:=by have o:∀i j:Nat,i≠j->ZW (B w (T g i Z) u) (T g j Z)=ZW w (T g j Z):=λi j hij=>sq _ _ _ _ (by simp);have s:∀i v,ZW w (T g i Z)=Q v->ZW (B w (T g i Z) u) (T g i Z)=Q u:=λi v e=>BO _ _ _ (by rw[e];rfl);obtain⟨Z8,⟨t,ZS⟩,⟨q,ZR⟩,⟨f,ZZ⟩,⟨x,y⟩,⟨r,ZT⟩,⟨p,Z9⟩,⟨m,G⟩,⟨b,C⟩,⟨l,H⟩,n,D⟩:=h;simp[Ten,o,Z8,s _ _ t,s _ _ q,s _ _ f,s _ _ x,s _ _ r,s _ _ p,s _ _ m,s _ _ b,s _ _ l,s _ _ n,t,q,f,x,r,p,m,b,l,n,ZS,ZR,ZZ,y,ZT,Z9,G,C,H,D]
def Ten.set0 (h:Ten w g v0 v1 v2 v3 v4 v5 v6 v7 v8 v9)(u:ZB):Ten (B w (T g 0 Z) u) g u v1 v2 v3 v4 v5 v6 v7 v8 v9:=(h.sets u).1
def Ten.set1 (h:Ten w g v0 v1 v2 v3 v4 v5 v6 v7 v8 v9)(u:ZB):Ten (B w (T g 1 Z) u) g v0 u v2 v3 v4 v5 v6 v7 v8 v9:=(h.sets u).2.1
def Ten.set2 (h:Ten w g v0 v1 v2 v3 v4 v5 v6 v7 v8 v9)(u:ZB):Ten (B w (T g 2 Z) u) g v0 v1 u v3 v4 v5 v6 v7 v8 v9:=(h.sets u).2.2.1
def Ten.set3 (h:Ten w g v0 v1 v2 v3 v4 v5 v6 v7 v8 v9)(u:ZB):Ten (B w (T g 3 Z) u) g v0 v1 v2 u v4 v5 v6 v7 v8 v9:=(h.sets u).2.2.2.1
def Ten.set4 (h:Ten w g v0 v1 v2 v3 v4 v5 v6 v7 v8 v9)(u:ZB):Ten (B w (T g 4 Z) u) g v0 v1 v2 v3 u v5 v6 v7 v8 v9:=(h.sets u).2.2.2.2.1
def Ten.set5 (h:Ten w g v0 v1 v2 v3 v4 v5 v6 v7 v8 v9)(u:ZB):Ten (B w (T g 5 Z) u) g v0 v1 v2 v3 v4 u v6 v7 v8 v9:=(h.sets u).2.2.2.2.2.1
def Ten.set6 (h:Ten w g v0 v1 v2 v3 v4 v5 v6 v7 v8 v9)(u:ZB):Ten (B w (T g 6 Z) u) g v0 v1 v2 v3 v4 v5 u v7 v8 v9:=(h.sets u).2.2.2.2.2.2.1
def Ten.set7 (h:Ten w g v0 v1 v2 v3 v4 v5 v6 v7 v8 v9)(u:ZB):Ten (B w (T g 7 Z) u) g v0 v1 v2 v3 v4 v5 v6 u v8 v9:=(h.sets u).2.2.2.2.2.2.2.1
def Ten.set8 (h:Ten w g v0 v1 v2 v3 v4 v5 v6 v7 v8 v9)(u:ZB):Ten (B w (T g 8 Z) u) g v0 v1 v2 v3 v4 v5 v6 v7 u v9:=(h.sets u).2.2.2.2.2.2.2.2.1
def Ten.set9 (h:Ten w g v0 v1 v2 v3 v4 v5 v6 v7 v8 v9)(u:ZB):Ten (B w (T g 9 Z) u) g v0 v1 v2 v3 v4 v5 v6 v7 v8 u:=(h.sets u).2.2.2.2.2.2.2.2.2
end
def IW (w:E)(b:Array ZB)(ty:ZK)(R ZM:Obj)(j:Nat)(v:ZB)(f:b[j]?=Q v):(((w.alloc (N b ty)).alloc R).alloc ZM).cell? (T (z (A w)) j Z)=Q v:=by rw[(((a8 (w.alloc (N b ty)).heap.size _).alloc ly R).alloc (by simp) ZM).O (p:=(T (z (A w)) j Z)) (by simp)];simp[f]
abbrev SO:=(Nat × Nat × Nat × List F_) ⊕ (Int × F_ × Nat) ⊕ (Bool × F_ × Nat)
abbrev strs (s:List F_):List ZB:=s.reverse.map Value.string
def SoIs (w:E)(base:Nat)(v:ZB):SO->Prop
 |.inl (p,st,l,s)=>∃a j_,v=ec p (Y a (ZU s) j_) st l ZA 0 ⟨#[]⟩ ZA ⟨#[]⟩ ZA/\ZY w base 9 1 (Y a (ZU s) j_) (ZU s) (strs s)
 |.inr (.inl (c,x,st))=>∃(at_:Int) (a:O_) (n j_:Nat) (lk:Int),v=ec at_ (Y a n j_) st lk ZH c x ZA ⟨#[]⟩ ZA
 |.inr (.inr (ask,nm,st))=>∃(at_:Int) (a:O_) (n j_:Nat) (lk:Int),v=ec at_ (Y a n j_) st lk ZA 0 ⟨#[]⟩ ask nm ZH
def SoIs.kept{v:ZB}{r:SO}(h:SoIs w base v r)(hb:Below (z (A w)) w w')(f:b<=base):SoIs w' b v r:=by
 rcases r with⟨p,st,l,s⟩|⟨c,x,st⟩|⟨ask,nm,st⟩
 {obtain⟨a,j_,e,g⟩:=h;exact⟨a,j_,e,aE (J_ g hb ly) f⟩};{exact h};{exact h}
def Bw{k:Nat}{s0:F_}{i:Int}{b:List ZB}(h:ZY w base e 1 (Y (Q (T g 0 Z)) n j_) n b)(f:b[0]?=Q (U s0))(j:ZW w (T k 0 Z)=Q (J I i)):k≠g:=by rintro rfl;have:=h.cells (g:=k) rfl 0 _ f;simp[Addr.add] at this;rw[j] at this;simp at this
def gQ (x:F_)(s:List F_):strs (x::s)=strs s++[U x]:=by simp[strs]
def yc:∃s0,(strs s++[Value.string x])[0]?=Q (U s0):=by
 rw[<-gQ];simp only[strs,LR,RF];have h:0<(x::s).reverse.length:=by simp
 exact⟨_,_,gq h,rfl⟩
def dT{b:List ZB}(h:ZY w base e 1 (Y (Q (T g 0 Z)) n j_) n b){k:Nat}(f:k≠g)(u:ZB)(j:Nat):(B w (T k j Z) u).ownsRow base e 1 (Y (Q (T g 0 Z)) n j_) n b:=
 WG h (by simp[Value.ownBlock];exact λe=>f e.c) u
def E9{f:List ZB}(h:ZY w base e 1 (Y (Q (T g 0 Z)) n j_) n f){k:Nat}(b:k≠g)(v0 v1 v2 v3 v4 v5 v6 v7 v8 v9:ZB):World.ownsRow (B (B (B (B (B (B (B (B (B (B w (T k 0 Z) v0) (T k 1 Z) v1) (T k 2 Z) v2) (T k 3 Z) v3) (T k 4 Z) v4) (T k 5 Z) v5) (T k 6 Z) v6) (T k 7 Z) v7) (T k 8 Z) v8) (T k 9 Z) v9) base e 1 (Y (Q (T g 0 Z)) n j_) n f:=
 dT (dT (dT (dT (dT (dT (dT (dT (dT (dT h b v0 0) b v1 1) b v2 2) b v3 3) b v4 4) b v5 5) b v6 6) b v7 7) b v8 8) b v9 9
def kj (y:Nat->aD)(n:Nat)(a:Bool)(nm:F_)(s:List F_)(p st l:Nat):SO:=
 if n<=l then .inr (.inr (a,nm,st)) else if a=ZA then .inl (p,st,(l+1),(eU (y l).has::s)) else if (y l).has=ZA then .inr (.inl (4,nm,st))
 else if (y l).M=0 then .inl (p,st,(l+1),((y l).H::s)) else .inr (.inl (5,nm,st))
def jR (y:Nat->aD)(n op:Nat)(pl nm:F_)(s:List F_)(p st l:Nat):SO:=
 if aA nm=ZA then .inr (.inl (2,pl,st)) else if l=200 then .inr (.inl (3,⟨#[]⟩,st)) else kj y n ((op:Int) == 12) nm s p st l
def Bz{pl nm:F_}{st:Nat}{b:SO}(h:b=jR y n op pl nm s p st l)(j:op=12\/op=13):(aA nm=ZA/\b=.inr (.inl (2,pl,st)))\/(aA nm=ZH/\((l:Int) == 200)=ZH/\b=.inr (.inl (3,⟨#[]⟩,st))) \/
  (aA nm=ZH/\((l:Int) == 200)=ZA/\((n<=l/\b=.inr (.inr (((op:Int) == 12),nm,st)))\/(l<n/\((op=13/\b=.inl (p,st,(l+1),(eU (y l).has::s)))\/(op=12/\(((y l).has=ZA/\b=.inr (.inl (4,nm,st)))\/((y l).has=ZH/\(((y l).M=0/\b=.inl (p,st,(l+1),((y l).H::s)))\/(((y l).M == 0)=ZA/\b=.inr (.inl (5,nm,st))))))))))):=by
 unfold jR kj at h;by_cases h1:aA nm=ZA;{rw[eT h1] at h;exact .inl ⟨h1,h⟩};rw[eI h1] at h;have h1:aA nm=ZH:=by simpa using h1
 by_cases h2:l=200;{rw[eT h2] at h;exact .inr (.inl ⟨h1,by simp;omega,h⟩)};rw[eI h2] at h;refine .inr (.inr ⟨h1,by simp;omega,?_⟩);by_cases i:n<=l;{rw[eT i] at h;exact .inl ⟨i,h⟩};rw[eI i] at h;refine .inr ⟨by omega,?_⟩;rcases j with rfl|rfl;{rw[eI (by simp)] at h;by_cases f:(y l).has=ZA;{rw[eT f] at h;exact .inr ⟨rfl,.inl ⟨f,h⟩⟩};rw[eI f] at h;by_cases g:(y l).M=0;{rw[eT g] at h;exact .inr ⟨rfl,.inr ⟨by simpa using f,.inl ⟨g,h⟩⟩⟩};rw[eI g] at h;exact .inr ⟨rfl,.inr ⟨by simpa using f,.inr ⟨by simpa using g,h⟩⟩⟩};{rw[eT (by simp)] at h;exact .inl ⟨rfl,h⟩}
structure LkS (w:E)(op:Int)(base:Nat)(a:O_)(j_:Nat)(s:List F_)(p st lk:Int)(V:E):Prop where
 run:Ten V (z (A w)+1) (J I p) (Y a (ZU s) j_) (J I st) (J I lk) (ZF ZA) (J I 0) (U ⟨#[]⟩) (ZF ZA) (U ⟨#[]⟩) (ZF ZA)
 zer:Ten V (z (A w)+1+1) (J I 0) (Y Z 0 0) (J I 0) (J I 0) (ZF ZA) (J I 0) (U ⟨#[]⟩) (ZF ZA) (U ⟨#[]⟩) (ZF ZA)
 bl:Below (z (A w)) w V
 u:ZY V base 9 1 (Y a (ZU s) j_) (ZU s) (strs s)
 ne:∀k,z (A w)<=k->Value.ownBlock (Y a (ZU s) j_)≠Q k
 arg:ZW V (T (z (A w)) 0 Z)=Q (J I op)
section
variable {w V ZN:E}{base j_:Nat}{a:O_}{s:List F_}{op p st lk:Int}
def LkS.aa (h:LkS w op base a j_ s p st lk V)(b:Below (z (A V)) V ZN):LkS w op base a j_ s p st lk ZN:=
 ⟨h.run.aa b h.run.1,h.zer.aa b h.zer.1,h.bl.k (b.P h.bl.size),J_ h.u b ly,h.ne,(b.O (p:=(T (z (A w)) 0 Z)) (by have:=h.run.1;show (z (A w))<_;omega)).k h.arg⟩
def LkS.next (h:LkS w op base a j_ s p st lk V)(q:Int):LkS w op base a j_ s p st q (B V (T (z (A w)+1) 3 Z) (J I q)):=
 ⟨h.run.set3 _,h.zer.other _ _ (by simp),h.bl.setCell (p:=(T (z (A w)+1) 3 Z)) (by simp) _,WG h.u (a:=(T (z (A w)+1) 3 Z)) (h.ne _ (by simp)) _,h.ne,(sq _ _ _ _ (by simp)).k h.arg⟩
def LkS.al (h:LkS w op base a j_ s p st lk V)(o:Obj):LkS w op base a j_ s p st lk (V.alloc o):=h.aa (br.alloc ly o)
def LkS.drew (h:LkS w op base a j_ s p st lk V):LkS w op base a j_ s p st lk V.drew:=h.aa br.drew
def LkS.grown (h:LkS w op base a j_ s p st lk V)(b:V.grownBy ZN (Value.slice a (ZU s) j_).ownBlock)(hb:base<=z (A w)):Ten ZN (z (A w)+1) (J I p) (Y a (ZU s) j_) (J I st) (J I lk) (ZF ZA) (J I 0) (U ⟨#[]⟩) (ZF ZA) (U ⟨#[]⟩) (ZF ZA)/\Ten ZN (z (A w)+1+1) (J I 0) (Y Z 0 0) (J I 0) (J I 0) (ZF ZA) (J I 0) (U ⟨#[]⟩) (ZF ZA) (U ⟨#[]⟩) (ZF ZA)/\Below base w ZN:=
 ⟨h.run.grown b λe=>h.ne _ (by omega) e.c,h.zer.grown b λe=>h.ne _ (by omega) e.c,bg (h.bl.P hb) b (nX hb h.bl.size) λk e=>(h.u.lt k e).1⟩
end
def zJ (op:Nat)(t:F_)(k:Int)(p st l:Nat)(a:O_)(j_:Nat)(s:List F_)(nm pl:F_)(b2 o2 n aq base:Nat)(y:Nat->aD)(w:E)
  (hY:RowReply w b2 o2 n y) (hO:ZY w base 9 1 (Y a (ZU s) j_) (ZU s) (strs s)) (hb:base<=z (A w)) (ex:op=12\/op=13) (hl:l<=200) (hs:ZU s<=50) :
  Qw Pg 143 #[ZJ #[J I op,U t,J I k],ec p (Y a (ZU s) j_) st l ZA 0 ⟨#[]⟩ ZA ⟨#[]⟩ ZA,U nm,U pl,Y (Q (T b2 o2 Z)) n aq] w λe w'=>∃v,e=ZI v/\SoIs w' base v (jR y n op pl nm s p st l)/\Below base w w':=by
 obtain⟨so,x⟩:∃so,so=jR y n op pl nm s p st l:=⟨_,rfl⟩
 rw[<-x];have HQ:=ae (Bz x ex);have HY:=ae hY;have A0:=ae ((((BS w).alloc ly (N #[J I op,U t,J I k] 102)).alloc (by simp) (N #[J I p,Y a (ZU s) j_,J I st,J I l,ZF ZA,J I 0,U ⟨#[]⟩,ZF ZA,U ⟨#[]⟩,ZF ZA] 170)).alloc (by simp<;>omega) (N #[J I 0,Y Z 0 0,J I 0,J I 0,ZF ZA,J I 0,U ⟨#[]⟩,ZF ZA,U ⟨#[]⟩,ZF ZA] 170));have C:=ae (LkS.mk (p:=p) (st:=st) (lk:=l) ((lp (ZV w (N #[J I op,U t,J I k] 102)) _ _ _ _ _ _ _ _ _ _ 170 (z (A w)+1) (by simp)).al _) (lp _ _ _ _ _ _ _ _ _ _ _ 170 (z (A w)+1+1) (by simp)) A0.i (J_ hO A0 ly) (λk hk e=>by have:=(hO.lt k e).2;omega) (IW w #[J I op,U t,J I k] 102 (N #[J I p,Y a (ZU s) j_,J I st,J I l,ZF ZA,J I 0,U ⟨#[]⟩,ZF ZA,U ⟨#[]⟩,ZF ZA] 170) (N #[J I 0,Y Z 0 0,J I 0,J I 0,ZF ZA,J I 0,U ⟨#[]⟩,ZF ZA,U ⟨#[]⟩,ZF ZA] 170) 0 (J I op) rfl));clear x hY hO A0;go_enter func143,ntmps143;go_wp2_with fail;generalize World.alloc (World.alloc (World.alloc w _) _) _=W0 at C ⊢;refine(dl nm _).P ?_;rintro e g⟨rfl,ZT⟩;replace C:=ae (C.aa ZT);have hz1:=C.zer.1;have i0:=C.arg;clear ZT;have R1:=ae C.run;obtain⟨ZZ,⟨c0,f0⟩,⟨c1,f1⟩,⟨c2,ZO⟩,⟨c3,ZN⟩,⟨c4,ZQ⟩,⟨c5,M⟩,⟨S,ZL⟩,⟨c7,f7⟩,⟨c8,f8⟩,O,X⟩:=R1.i;rcases HQ.i with⟨h1,rfl⟩|⟨h1,h2,rfl⟩|⟨h1,h2,⟨h3,rfl⟩|⟨h3,h⟩⟩
 all_goals
  rw[h1];clear HQ
 case' inr.inr.inl =>
  have ZE:=ae (((C.zer.other (T (z (A w)+1) 9 Z) (ZF ZH) (by simp)).other (T (z (A w)+1) 7 Z) (ZF ((op:Int) == 12)) (by simp)).other (T (z (A w)+1) 8 Z) (U nm) (by simp));have B2:=ae (((C.bl.setCell (p:=(T (z (A w)+1) 9 Z)) (by simp) (ZF ZH)).setCell (p:=(T (z (A w)+1) 7 Z)) (by simp) (ZF ((op:Int) == 12))).setCell (p:=(T (z (A w)+1) 8 Z)) (by simp) (U nm));obtain⟨Z8,⟨z0,y0⟩,⟨z1,y1⟩,⟨z2,V⟩,⟨z3,ZM⟩,⟨i,P⟩,⟨o,y5⟩,⟨m,y6⟩,⟨j,ZP⟩,⟨q,y8⟩,r,R⟩:=ZE.i;have hw:(n:Int)<=l:=by omega
  go_wp2;exact bp (v:=ec p (Y a (ZU s) j_) st l ZA 0 ⟨#[]⟩ ((op:Int) == 12) nm ZH) (by simp[results,T0,go_sem,z0,z1,z2,z3,i,o,m,j,q,r]) rfl ⟨_,rfl,⟨_,_,_,_,_,rfl⟩,dS (B2.P hb) (by omega) _ _ _ _ _ _ _ _ _ _⟩
 case' inr.inr.inr =>
  obtain⟨d0,d1,d2⟩:=(HY.aa C.bl ly).2 l h3;have hln:(l:Int)<n:=by omega
  have hz0:z (A w)<z (A g):=by omega
  have hz01:z (A w)+1<z (A g):=by omega
  replace C:=ae ((C.next ((l:Int)+1)).al (N #[ZF (y l).has,J I (y l).M,U (y l).H] 119));have g0:=kH (B g (T (z (A w)+1) 3 Z) (J I ((l:Int)+1))) #[ZF (y l).has,J I (y l).M,U (y l).H] 119 (z (A g)) 0 (ZF (y l).has) (by simp) rfl;have g1:=kH (B g (T (z (A w)+1) 3 Z) (J I ((l:Int)+1))) #[ZF (y l).has,J I (y l).M,U (y l).H] 119 (z (A g)) 1 (J I (y l).M) (by simp) rfl;have g2:=kH (B g (T (z (A w)+1) 3 Z) (J I ((l:Int)+1))) #[ZF (y l).has,J I (y l).M,U (y l).H] 119 (z (A g)) 2 (U (y l).H) (by simp) rfl;have bt:z (A g)<z (A (ZV (B g (T (z (A w)+1) 3 Z) (J I ((l:Int)+1))) (N #[ZF (y l).has,J I (y l).M,U (y l).H] 119))):=by simp
  go_upto_region 12 with fail;clear ZZ c0 f0 c1 f1 c2 ZO c3 ZN c4 ZQ c5 M S ZL c7 f7 c8 f8 O X R1 d0 d1 d2 i0;generalize World.alloc (World.setCell g _ _) _=W at C g0 g1 g2 bt ⊢;have i0:=C.arg;have hbW:base<=z (A W):=nX hb C.bl.size;obtain⟨ZS,hi,H,K,ZR⟩:=NO gX;obtain⟨ZZ,⟨c0,f0⟩,⟨c1,f1⟩,⟨c2,ZO⟩,⟨c3,ZN⟩,⟨c4,ZQ⟩,⟨c5,M⟩,⟨S,ZL⟩,⟨c7,f7⟩,⟨c8,f8⟩,O,X⟩:=C.run;rcases h with⟨rfl,rfl⟩|⟨rfl,⟨h4,rfl⟩|⟨h4,⟨h5,rfl⟩|⟨h5,rfl⟩⟩⟩
  case' inr.inl|inr.inr.inr=>rw[h4] at g0
  case' inr.inr.inl =>rw[h4] at g0;rw[h5] at g1;go_wp2_with (at_builtin;refine DN _ rfl (.tmp 70) (.tmp 73) 43 rfl base 9 ZS (U ⟨#[]⟩) 1 16 NG hi H K ZR rfl (by decide) (Y a (ZU s) j_) (ZU s) (strs s) (by simp[Act.eval]) (by first|exact C.u.alloc _|exact C.u.drew.alloc _|exact C.u.drew.drew.alloc _) (T (z (A W)) 0 Z) 1 1 [U (y l).H] (by simp[Act.eval]) rfl (by first|exact ep W _ _|exact ep W.drew _ _|exact ep W.drew.drew _ _) (by simp[Value.oneCell']) (by unfold maxLen;omega) (by omega) (by simp<;>omega) ?_;intro v' w2 b f u;obtain⟨gg,Z9,rfl⟩:=iA b (by omega);have G:=ae (LkS.grown (by first|exact C.al _|exact C.drew.al _|exact C.drew.drew.al _) f hb);obtain⟨mv,⟨k0,m0⟩,⟨k1,m1⟩,⟨k2,m2⟩,⟨k3,m3⟩,⟨k4,m4⟩,⟨k5,m5⟩,⟨k6,m6⟩,⟨k7,m7⟩,⟨k8,m8⟩,k9,m9⟩:=G.1;obtain⟨Z8,⟨z0,y0⟩,⟨z1,y1⟩,⟨z2,V⟩,⟨z3,ZM⟩,⟨i,P⟩,⟨o,y5⟩,⟨m,y6⟩,⟨j,ZP⟩,⟨q,y8⟩,r,R⟩:=G.2.1)
  case' inl =>go_wp2_with fail;go_region_law (first|(refine dR rfl (.tmp 49) (.tmp 53) 43 rfl base 9 ZS (U ⟨#[]⟩) 1 16 NG hi H K ZR rfl (by decide) (Y a (ZU s) j_) (ZU s) (strs s) (by simp[Act.eval]) (by first|exact C.u.alloc _|exact C.u.drew.alloc _|exact C.u.drew.drew.alloc _) (T (z (A W)) 0 Z) 1 1 [U (eU (y l).has)] (by simp[Act.eval]) rfl (by first|exact ep W _ _|exact ep W.drew _ _|exact ep W.drew.drew _ _) (by simp[Value.oneCell']) (by unfold maxLen;omega) (by omega) (by simp<;>omega) ?_;intro v' w2 b f u;obtain⟨gg,Z9,rfl⟩:=iA b (by omega);have G:=ae (LkS.grown (by first|exact C.al _|exact C.drew.al _|exact C.drew.drew.al _) f hb);obtain⟨mv,⟨k0,m0⟩,⟨k1,m1⟩,⟨k2,m2⟩,⟨k3,m3⟩,⟨k4,m4⟩,⟨k5,m5⟩,⟨k6,m6⟩,⟨k7,m7⟩,⟨k8,m8⟩,k9,m9⟩:=G.1;obtain⟨Z8,⟨z0,y0⟩,⟨z1,y1⟩,⟨z2,V⟩,⟨z3,ZM⟩,⟨i,P⟩,⟨o,y5⟩,⟨m,y6⟩,⟨j,ZP⟩,⟨q,y8⟩,r,R⟩:=G.2.1)|(go_simp;go_at_call 162;refine(qx _ _).P ?_;rintro e w9⟨rfl,ld⟩;subst ld))
  all_goals (try (have L:=Bw b (yc (s:=s)).choose_spec G.1.2.1.1;have la:=Bw b (yc (s:=s)).choose_spec G.2.1.2.1.1;have fd:=ae (dT b L (Y (Q (T gg 0 Z)) (ZU s+1) Z9) 1);have B4:=ae (G.2.2.setCell (p:=(T (z (A w)+1) 1 Z)) (by simp;omega) (Y (Q (T gg 0 Z)) (ZU s+1) Z9));clear b f u L;(try go_wp2);refine bp (v:=ec p (Y (Q (T gg 0 Z)) (ZU s+1) Z9) st ((l:Int)+1) ZA 0 ⟨#[]⟩ ZA ⟨#[]⟩ ZA) (by simp[results,T0,go_sem,z0,z1,z2,z3,i,o,m,j,q,r]) rfl ⟨_,rfl,⟨Q (T gg 0 Z),Z9,by simp,?_⟩,dS B4.i (by omega) _ _ _ _ _ _ _ _ _ _⟩;rw[gQ];exact E9 fd la _ _ _ _ _ _ _ _ _ _))
 all_goals
  go_wp2_with fail;refine(fN _ _ _ _ _ _ _ _ _ _ _ _ _ _ _).P ?_;rintro e w2⟨rfl,D⟩;replace C:=ae (C.aa D);clear D ZZ c0 f0 c1 f1 c2 ZO c3 ZN c4 ZQ c5 M S ZL c7 f7 c8 f8 O X;obtain⟨Z8,⟨z0,y0⟩,⟨z1,y1⟩,⟨z2,V⟩,⟨z3,ZM⟩,⟨i,P⟩,⟨o,y5⟩,⟨m,y6⟩,⟨j,ZP⟩,⟨q,y8⟩,r,R⟩:=C.zer;go_wp2;first
   |exact bp (v:=ec p (Y a (ZU s) j_) st l ZH 3 ⟨#[]⟩ ZA ⟨#[]⟩ ZA) (by simp[results,T0,go_sem,z0,z1,z2,z3,i,o,m,j,q,r]) rfl ⟨_,rfl,⟨_,_,_,_,_,rfl⟩,dS (C.bl.P hb) (by omega) _ _ _ _ _ _ _ _ _ _⟩
   |exact bp (v:=ec p (Y a (ZU s) j_) st l ZH 2 pl ZA ⟨#[]⟩ ZA) (by simp[results,T0,go_sem,z0,z1,z2,z3,i,o,m,j,q,r]) rfl ⟨_,rfl,⟨_,_,_,_,_,rfl⟩,dS (C.bl.P hb) (by omega) _ _ _ _ _ _ _ _ _ _⟩
   |exact bp (v:=ec p (Y a (ZU s) j_) st ((l:Int)+1) ZH 4 nm ZA ⟨#[]⟩ ZA) (by simp[results,T0,go_sem,z0,z1,z2,z3,i,o,m,j,q,r]) rfl ⟨_,rfl,⟨_,_,_,_,_,rfl⟩,dS (C.bl.P hb) (by omega) _ _ _ _ _ _ _ _ _ _⟩
   |exact bp (v:=ec p (Y a (ZU s) j_) st ((l:Int)+1) ZH 5 nm ZA ⟨#[]⟩ ZA) (by simp[results,T0,go_sem,z0,z1,z2,z3,i,o,m,j,q,r]) rfl ⟨_,rfl,⟨_,_,_,_,_,rfl⟩,dS (C.bl.P hb) (by omega) _ _ _ _ _ _ _ _ _ _⟩
def add0 (g j:Nat):((T g 0 Z):Addr).add j=(T g j Z):=by unfold Addr.add;split<;>simp_all
def Hl (h:ZY w base e 1 (Y (Q (T g 0 Z)) (ZU r+1) j_) (ZU r+1) (strs (x::r))):ZW w (T g (ZU r) Z)=Q (U x):=by have:=h.cells (g:=g) rfl (ZU r) (U x) (by rw[gQ,KK (by simp)];simp);rwa[add0] at this
def Hm{ZZ:F_}(h:ZY w base e 1 (Y (Q (T g 0 Z)) (ZU r+2) j_) (ZU r+2) (strs (x::ZZ::r))):ZW w (T g (ZU r+1) Z)=Q (U x)/\ZW w (T g (ZU r) Z)=Q (U ZZ):=by have h1:=h.cells (g:=g) rfl (ZU r+1) (U x) (by rw[gQ,KK (by simp)];simp);have h2:=h.cells (g:=g) rfl (ZU r) (U ZZ) (by rw[gQ,NH (by simp),gQ,KK (by simp)];simp);rw[add0] at h1 h2;exact⟨h1,h2⟩
def Hn{b:List ZB}(h:ZY w base e 1 (Y (Q (T g 0 Z)) n j_) n b):n<=j_:=by
 rcases h.2 with⟨i,_⟩|⟨g,c,cur,f,_,_,hn,_⟩
 {simp at i};{simp at f;omega}
def Ho{xs:List ZB}(h:ZY w base e 1 (Y (Q (T g 0 Z)) n j_) n (strs r++xs)):∀j u,(strs r)[j]?=Q u->w.cell? (((T g 0 Z):Addr).add j)=Q u:=λj u b =>h.cells (g:=g) rfl j u (by rw[NH (by obtain⟨f,_⟩:=j5.1 b;exact f)];exact b)
def sM{v:ZB}{f:List ZB}(h:ZY w base e 1 v n f)(b:v≠.slice Z 0 0):∃g j_,v=Y (Q (T g 0 Z)) n j_/\base<=g:=by
 rcases h.2 with⟨i,_⟩|⟨g,j_,cur,b,j,_⟩
 {exact absurd i b};{exact⟨g,j_,b,j⟩}
def Fa (r:List F_):∀u∈strs r,u.oneCell'=ZH:=by intro u b;obtain⟨x,_,rfl⟩:=NM.1 b;rfl
def SoIs.form{v:ZB}{r:SO}(h:SoIs w base v r):∃(at_:Int) (a:O_) (n j_:Nat) (st lk:Int) (f:Bool) (c:Int) (x:F_) (ask:Bool) (nm:F_) (b:Bool),v=ec at_ (Y a n j_) st lk f c x ask nm b:=by
 rcases r with⟨p,st,l,s⟩|⟨c,x,st⟩|⟨ask,nm,st⟩
 {obtain⟨a,j_,e,_⟩:=h;exact⟨_,_,_,_,_,_,_,_,_,_,_,_,e⟩};{obtain⟨at_,a,n,j_,lk,e⟩:=h;exact⟨_,_,_,_,_,_,_,_,_,_,_,_,e⟩};{obtain⟨at_,a,n,j_,lk,e⟩:=h;exact⟨_,_,_,_,_,_,_,_,_,_,_,_,e⟩}
def SoIs.set{v:ZB}{r:SO}(h:SoIs w base v r){k:Nat}(f:k<base)(j:Nat)(u:ZB):SoIs (B w (T k j Z) u) base v r:=by
 rcases r with⟨p,st,l,s⟩|⟨c,x,st⟩|⟨ask,nm,st⟩
 {obtain⟨a,j_,e,b⟩:=h;exact⟨a,j_,e,WH b (a:=(T k j Z)) f u⟩};{exact h};{exact h}
def SoIs.P{base':Nat}{v:ZB}{r:SO}(h:SoIs w base v r)(hb:base'<=base):SoIs w base' v r:=h.kept br hb
def BD{v:ZB}{r:SO}(h:SoIs w base v r){k:Nat}(b:k<base)(v0 v1 v2 v3 v4 v5 v6 v7 v8 v9:ZB):SoIs (B (B (B (B (B (B (B (B (B (B w (T k 0 Z) v0) (T k 1 Z) v1) (T k 2 Z) v2) (T k 3 Z) v3) (T k 4 Z) v4) (T k 5 Z) v5) (T k 6 Z) v6) (T k 7 Z) v7) (T k 8 Z) v8) (T k 9 Z) v9) base v r:=
 (((((((((h.set b 0 v0).set b 1 v1).set b 2 v2).set b 3 v3).set b 4 v4).set b 5 v5).set b 6 v6).set b 7 v7).set b 8 v8).set b 9 v9
def zK (op n:Nat)(t a b:F_)(h1:1<=op)(h11:op<=11):(cB op n t a b).length=bN op:=by rcases(show op=1\/op=2\/op=3\/op=4\/op=5\/op=6\/op=7\/op=8\/op=9\/op=10\/op=11 by omega) with rfl|rfl|rfl|rfl|rfl|rfl|rfl|rfl|rfl|rfl|rfl;all_goals rfl
def Hp (h1:1<=op)(h11:op<=11)(h:j<bN op):op<=8:=by rcases(show op=1\/op=2\/op=3\/op=4\/op=5\/op=6\/op=7\/op=8\/op=9\/op=10\/op=11 by omega) with rfl|rfl|rfl|rfl|rfl|rfl|rfl|rfl|rfl|rfl|rfl;all_goals simp[bN] at h ⊢
def Fb (op:Nat):bN op<=2:=by
 unfold bN;split;{omega};{split<;>omega}
def gR (b:List F_)(pl:F_)(r:List F_)(p st l:Nat):SO:=if b.all (λx=>decide (x.size<=2000)) then .inl (p,st,l,(b.reverse++r)) else .inr (.inl (2,pl,st))
def BH{b:List F_}(h:j<ZU b):(b.take (j+1)).map Value.string=(b.take j).map Value.string++[U (b.getD j ⟨#[]⟩)]:=by rw[V4,ND,gq h];simp[h]
def Fc (b r:List F_):strs (b.reverse++r)=strs r++b.map Value.string:=by simp[strs]
def Hq{b:List F_}(h:j<ZU b)(f:¬ ((b.getD j ⟨#[]⟩).size:Int)<=2000):b.all (λx=>decide (x.size<=2000))=ZA:=by simp only[List.all_eq_false];exact⟨b[j],gz h,by simp[h] at f ⊢;omega⟩
def Fe{b:List F_}(h:∀i,i<ZU b->(b.getD i ⟨#[]⟩).size<=2000):b.all (λx=>decide (x.size<=2000))=ZH:=by simp only[List.all_eq_true,nD];intro x f;obtain⟨i,hi,rfl⟩:=List.mem_iff_getElem.1 f;have:=h i hi;simpa[hi] using this
def iE (y:Nat->aD)(n zd st x_:Nat):Res->SO
 |.inr (.inl (c,x))=>.inr (.inl (c,x,st))
 |.inl (s',p)=>.inl (p,st,x_,s')
 |.inr (.inr (a,nm,s'))=>kj y n a nm s' (zd+1) st x_
def gn (f:Nat->Ins)(yh:Nat)(y:Nat->aD)(n zd v_ x_:Nat)(s:List F_):SO:=iE y n zd (cU yh zd v_) x_ (bQ f yh zd v_ x_ s)
def BJ{i:List ZB}(h:ZY w base e 1 (Y a n j_) n i):(a=Z/\n=0/\j_=0)\/∃g,a=Q (T g 0 Z):=by
 rcases h.2 with⟨f,_⟩|⟨g,c,cur,b,_⟩
 {simp only[IN] at f;exact .inl f};{simp only[IN] at b;exact .inr ⟨g,b.1⟩}
def zL (op k:Nat)(t a b:F_)(h1:1<=op)(h11:op<=11)(h2:op≠2)(g:t.size<=2000)(f:a.size<=2000)(hb:b.size<=2000):(cB op k t a b).all (λx=>decide (x.size<=2000))=ZH:=by
 rcases(show op=1\/op=3\/op=4\/op=5\/op=6\/op=7\/op=8\/op=9\/op=10\/op=11 by omega) with rfl|rfl|rfl|rfl|rfl|rfl|rfl|rfl|rfl|rfl;{simp[cB,g]};{simp only[cB,WT,XX,TC,nD];split;{simp;omega};{exact f}};{simp only[cB,WT,XX,TC,nD];split;{simp;omega};{decide}};{simp only[cB,WT,XX,TC,nD];exact nX (qB _ _) f};{simp only[cB,WT,XX,TC,nD];exact jr _};{simp[cB,f]};{simp[cB,f,hb]};{rfl};{rfl};{rfl}
def zN (op k:Nat)(t a b pl:F_)(r:List F_)(p st l:Nat)(h1:1<=op)(f:op<=11)(h2:op≠2)(h:t.size<=2000)(g:a.size<=2000)(hb:b.size<=2000):gR (cB op k t a b) pl r p st l=.inl (p,st,l,((cB op k t a b).reverse++r)):=by unfold gR;rw[zL op k t a b h1 f h2 h g hb];rfl
def IX (k:Nat)(t x ZZ:F_)(r:List F_)(y:Nat->aD)(n zd st x_:Nat):iE y n zd st x_ (cK 2 k t zd x_ (x::ZZ::r))=gR (cB 2 k t x ZZ) (dV zd) r (zd+1) st x_:=by
 unfold gR;simp only[cK,cB,WT,XX,TC,PU];by_cases h:ZZ.size+x.size<=2000;{rw[eT h,eT (by simpa using h)];rfl};{rw[eI h,eI (by simpa using h)];rfl}
def yd (op:Nat)(y:Nat->aD)(n zd st x_:Nat)(x:F_)(r:List F_)(b:Bool)(hb:((op:Int) == 12)=b):iE y n zd st x_ (iN b x r zd x_)=jR y n op (dV zd) x r (zd+1) st x_:=by
 unfold iN jR;rw[hb];by_cases h1:aA x=ZA;{rw[eT h1,eT h1];rfl};{rw[eI h1,eI h1];by_cases h2:x_=200;{rw[eT h2,eT h2];rfl};{rw[eI h2,eI h2];rfl}}
def Ff (l r:List F_):strs (l++r)=strs r++strs l:=by simp[strs]
def lZ (op:Nat)(s:List F_):F_:=if 0<aX op then s.getD 0 ⟨#[]⟩ else ⟨#[]⟩
def rI (op:Nat)(s:List F_):F_:=if 1<aX op then s.getD 1 ⟨#[]⟩ else ⟨#[]⟩
def nJ (op k:Nat)(a:F_)(zd:Nat):Nat:=if op=10 then k else if op=11/\(a.toList=[]\/(a.toList == [48])=ZH) then k else zd+1
def JC{k zd:Nat}{Z8:F_}(h:op=10\/op=11/\Z8.toList.isEmpty=ZH\/op=11/\(Z8.toList == [48])=ZH):nJ op k Z8 zd=k:=by
 unfold nJ;rcases h with rfl|⟨rfl,h⟩|⟨rfl,h⟩
 {rfl};{rw[eI (by omega),eT ⟨rfl,.inl (List.isEmpty_iff.1 h)⟩]};{rw[eI (by omega),eT ⟨rfl,.inr h⟩]}
def Hr (op:Nat)(Z8:F_)(h:op<=15):op=15\/op=14\/op=12\/op=13\/op=10\/(op=11/\Z8.toList.isEmpty=ZH)\/(op=11/\Z8.toList.isEmpty=ZA/\(Z8.toList == [48])=ZH)\/(op=11/\Z8.toList.isEmpty=ZA/\(Z8.toList == [48])=ZA)\/op<=9:=by
 by_cases e:op=11;{subst e;cases Z8.toList.isEmpty<;>cases (Z8.toList == [48])<;>simp};{omega}
def vg (h:∀x∈s,x.size<=2000)(op:Nat):(lZ op s).size<=2000/\(rI op s).size<=2000:=by
 have g:∀j,(s.getD j ⟨#[]⟩).size<=2000:=λj=>by
  rw[CL];rcases hj:s[j]? with _|x;{exact DW _};{exact h x (I5 hj)}
 refine⟨?_,?_⟩;{unfold lZ;split;{exact g 0};{exact DW _}};{unfold rI;split;{exact g 1};{exact DW _}}
def Fg (op k:Nat)(t:F_)(s:List F_)(y:Nat->aD)(n zd st x_:Nat)(h1:1<=op)(f:op<=11)(hb:aX op<=ZU s)(h:t.size<=2000)(b:∀x∈s,x.size<=2000):iE y n zd st x_ (cK op k t zd x_ s)=gR (cB op k t (lZ op s) (rI op s)) (dV zd) (s.drop (aX op)) (nJ op k (lZ op s) zd) st x_:=by
 have g:=(vg b op).1;have i:=(vg b op).2;by_cases h2:op=2
 ·subst h2;match s,hb with
  |x::ZZ::r,_=>exact IX k t x ZZ r y n zd st x_
 ·rw[zN op k t _ _ _ _ _ _ _ h1 f h2 h g i];rcases(show op=1\/op=3\/op=4\/op=5\/op=6\/op=7\/op=8\/op=9\/op=10\/op=11 by omega) with rfl|rfl|rfl|rfl|rfl|rfl|rfl|rfl|rfl|rfl;{rfl};iterate 3
   ·match s,hb with
    |x::r,_=>rfl
  ·match s,hb with
   |x::ZZ::r,_=>rfl
  ·match s,hb with
   |x::r,_=>rfl
  ·match s,hb with
   |x::ZZ::r,_=>rfl
  ·match s,hb with
   |x::r,_=>rfl
  {rfl}
  ·match s,hb with
   |x::r,_ =>show iE y n zd st x_ (cK 11 k t zd x_ (x::r))=.inl (nJ 11 k x zd,st,x_,r);simp only[cK,iE,nJ,show((11:Nat)=10)=False by simp,UI,TX]
def Ht (op k:Nat)(t:F_)(s:List F_)(y:Nat->aD)(n zd st x_:Nat)(h:op=12\/op=13)(hb:aX op<=ZU s):iE y n zd st x_ (cK op k t zd x_ s)=jR y n op (dV zd) (lZ op s) (s.drop (aX op)) (zd+1) st x_:=by
 rcases h with rfl|rfl
 ·match s,hb with
  |x::r,_=>exact yd 12 y n zd st x_ x r ZH rfl
 ·match s,hb with
  |x::r,_=>exact yd 13 y n zd st x_ x r ZA rfl
def ye (op k:Nat)(t:F_)(s:List F_)(y:Nat->aD)(n zd st x_:Nat)(h:op=14\/op=15)(hb:aX op<=ZU s):iE y n zd st x_ (cK op k t zd x_ s)=.inr (.inl (15 - (op:Int),lZ op s,st)):=by
 rcases h with rfl|rfl
 ·match s,hb with
  |x::r,_=>rfl
 ·match s,hb with
  |x::r,_=>rfl
def eJ (f:Nat->au)(l:Link):aD:=
 if l.ask=ZH then
  (if (f l.G.toNat).L=1 then ⟨ZH,0,(f l.G.toNat).H⟩ else if (f l.G.toNat).L=3 then ⟨ZH,(f l.G.toNat).M,(f l.G.toNat).H⟩ else ⟨ZA,0,⟨#[]⟩⟩)
 else ⟨l.has,0,⟨#[]⟩⟩
def yOf (f:Nat->au)(p:Nat)(k:Nat):aD:=eJ f ((f p).m k)
def bB (f:Nat->au)(p k:Nat):Turn:=cA (f p).q (f p).h (yOf f p) k 2001 0 0 0 []
def eA (f:Nat->au)(p k:Nat):Bool:=(bB f p k).K || !((bB f p k).e.toList == ((f p).m k).e.toList) || !((bB f p k).ask == ((f p).m k).ask)
def eF (f:Nat->au)(p:Nat):Nat->Nat->Nat
 |0,k=>k
 |j+1,k=>if eA f p k=ZH then k else eF f p j (k+1)
def bD (f:Nat->au)(p:Nat):Nat:=eF f p (f p).f 0
def gB (f:Nat->au)(p:Nat):Int:=
 if bD f p<(f p).f then 4 else if (bB f p (bD f p)).K=ZA then 4 else if (bB f p (bD f p)).M=(f p).M/\(bB f p (bD f p)).H.toList=(f p).H.toList then 0 else 5
def codeF (f:Nat->au)(p:Nat):Int:=if (f p).L=3 then gB f p else 0
def zO (f:Nat->au):Nat->Int × Int
 |0=>(0,0)
 |k+1=>if (zO f k).1=0 then (if codeF f k=0 then (0,0) else (codeF f k,(k:Int))) else zO f k
def px (f:Nat->au)(p:Nat):∀j k,k<=eF f p j k/\eF f p j k<=k+j
 |0,k=>⟨p7 _,p7 _⟩
 |j+1,k=>by
  rw[eF];split
  ·omega
  ·have:=px f p j (k+1)
   omega
def vh{k:Nat}(h:eA f p k=ZA):eF f p (j+1) k=eF f p j (k+1):=by rw[eF,eI (by rw[h];simp)]
def vi{k:Nat}(h:eA f p k=ZH):eF f p (j+1) k=k:=by rw[eF,eT h]
def Jv (b:∀i,i<n->codeF f i=0):zO f n=(0,0):=by
 induction n with
 |zero=>rfl
 |succ m g=>rw[zO,g λi hi=>b i (by omega),eT rfl,eT (b m (by omega))]
def ed (h:bc f n=ZH):∀p,p<n->(f p).H.size<=2000/\((f p).L=1/\(f p).M=0\/(f p).L=2/\(f p).M=0/\(f p).H.size=0\/(f p).L=3/\0<=(f p).M/\(f p).M<=5/\valid (f p).q (f p).h=ZH/\(f p).f<=200):=by
 intro p g;have h1:=eN (er h).2.2 p g;simp only[bw,j6,kindOk,nD] at h1;obtain⟨⟨_,i⟩,h2⟩:=h1;refine⟨i,?_⟩;split at h2;{rename_i b;simp only[aY,j6,nD] at h2;exact .inl ⟨b,h2.1.1⟩};{split at h2;{rename_i b;simp only[aY,j6,nD] at h2;exact .inr (.inl ⟨b,h2.1.1.1,h2.2⟩)};{split at h2;{rename_i b;simp only[cC,j6,nD] at h2;exact .inr (.inr ⟨b,h2.1.1.1.1,h2.1.1.1.2,h2.1.1.2,h2.1.2⟩)};{simp at h2}}}
def yg (h:bc f n=ZH){l:Link}(b:l.ask=ZH->l.G.toNat<n):cI (eJ f l)=ZH:=by
 unfold eJ cI;split;{rename_i g;obtain⟨h1,h2⟩:=ed h _ (b g);split;{simp;omega};{split;{rename_i hk1 hk3;rcases h2 with h2|h2|h2;{omega};{omega};{simp;omega}};{exact QC ⟨DW _,by decide,by decide⟩}}};{exact QC ⟨DW _,YR _,show(0:Int)<=7 by decide⟩}
def vj{k:Nat}(h:∀i,i<k->cI (y i)=ZH):bU y k=ZH:=by
 induction k with
 |zero=>rfl
 |succ k b=>rw[bU,b λi hi=>h i (by omega),h k (by omega)];rfl
def nK (h:bc f n=ZH){l:Link}(j:l.ask=ZH)(i:l.G.toNat<n):eJ f l=⟨decide (¬ (f l.G.toNat).L=2),(f l.G.toNat).M,(f l.G.toNat).H⟩:=by
 obtain⟨h1,h2⟩:=ed h _ i;unfold eJ;rw[eT j];rcases h2 with⟨b,g⟩|⟨b,g,m⟩|⟨b,g⟩
 {rw[eT b,b,g];rfl};{rw[eI (by omega),eI (by omega),b,g];have:(f l.G.toNat).H=⟨#[]⟩:=YU (TH m);rw[this];rfl};{rw[eI (by omega),eT b,b];rfl}
def oR (t i n j_:Nat)(f:Nat->au)(l:Link)(w:E)(r:bc f n=ZH)(q:Qk w t i n f)(ZZ:l.ask=ZH->0<=l.G/\l.G.toNat<n):Qw Pg 137 #[ZJ #[Y (Q (T t i Z)) n j_],ZJ #[U l.e,ZF l.ask,ZF l.has,J I l.G]] w λe w'=>e=ZI (ZJ #[ZF (eJ f l).has,J I (eJ f l).M,U (eJ f l).H])/\Below (z (A w)) w w':=by
 have ZQ:=ae q;have x:=ae (λZT:l.ask=ZH=>nK r ZT (ZZ ZT).2);have Z8:=ae ZZ;have s:=ae (show l.ask=ZA->eJ f l=⟨l.has,0,⟨#[]⟩⟩ from λh=>by unfold eJ;rw[eI (by rw[h];simp)]);clear q r ZZ;obtain⟨R,hR⟩:∃R,R=eJ f l:=⟨_,rfl⟩
 rw[<-hR] at x s ⊢;clear hR;obtain⟨nm,ask,y,at_⟩:=l;dsimp only at x Z8 s ⊢;have u:=ae ((((BS w).alloc ly (N #[Y (Q (T t i Z)) n j_] 25)).alloc (by simp) (N #[U nm,ZF ask,ZF y,J I at_] 65)).alloc (by simp;omega) (N #[ZF ZA,J I 0,U ⟨#[]⟩] 119));cases ask with
 |false =>
  obtain rfl:R=⟨y,0,⟨#[]⟩⟩:=s.i rfl;dsimp only;go_enter func137,ntmps137;go_wp2
  exact bp (v:=ZJ #[ZF y,J I 0,U ⟨#[]⟩]) (by simp[results,results137,go_sem]) rfl ⟨rfl,by
   repeat (first|exact a8 _ _|refine VG ?_ (by simp<;>omega) _)⟩
 |true =>
  obtain⟨h1,h2⟩:=Z8.i rfl;obtain⟨p,rfl⟩:=p9 h1;have ZM:p<n:=by simpa using h2
  obtain rfl:R=⟨decide (¬ (f p).L=2),(f p).M,(f p).H⟩:=by have:=x.i rfl;simpa using this
  dsimp only;obtain⟨p0,S,ZP,ZO,⟨P,C,O,L⟩,⟨M,Z9,ZN,ZR⟩⟩:=(ZQ.i.aa u.i ly).2 p ZM;clear L ZR x s Z8;have hpn:(p:Int)<n:=by omega
  go_enter func137,ntmps137;go_wp2_with fail;clear p0 S ZP ZO O ZN;obtain⟨o,m⟩:∃W:E,ZV (ZV (ZV w (N #[Y (Q (T t i Z)) n j_] 25)) (N #[U nm,ZF ZH,ZF y,J I (p:Int)] 65)) (N #[ZF ZA,J I 0,U ⟨#[]⟩] 119)=W:=⟨_,rfl⟩
  obtain⟨-,-,-,-,z0⟩:=nb3 m;have b:=ae m;clear m;have c0:ZW o (T (z (A w)+1+1) 0 Z)=Q (ZF ZA):=by rw[<-b.i];simp[go_sem]
  have H:ZX o (T (z (A w)+1+1) 0 Z)=ZA:=by rw[<-b.i];simp[go_sem]
  have c1:ZW o (T (z (A w)+1+1) 1 Z)=Q (J I 0):=by rw[<-b.i];simp[go_sem]
  have G:ZX o (T (z (A w)+1+1) 1 Z)=ZA:=by rw[<-b.i];simp[go_sem]
  have c2:ZW o (T (z (A w)+1+1) 2 Z)=Q (U ⟨#[]⟩):=by rw[<-b.i];simp[go_sem]
  have D:ZX o (T (z (A w)+1+1) 2 Z)=ZA:=by rw[<-b.i];simp[go_sem]
  rw[b.i] at u ⊢;clear b;refine(sj (f p) P C M Z9 _).P ?_;rintro e ZS⟨rfl,j⟩;have g:z (A w)+1+1<z (A o):=by omega
  have X:=(j.O (p:=(T (z (A w)+1+1) 0 Z)) g).k c0;have ZL:=(j.O (p:=(T (z (A w)+1+1) 1 Z)) g).k c1;have V:=(j.O (p:=(T (z (A w)+1+1) 2 Z)) g).k c2;have e0:=(j.frozen (p:=(T (z (A w)+1+1) 0 Z)) g).k H;have e1:=(j.frozen (p:=(T (z (A w)+1+1) 1 Z)) g).k G;have e2:=(j.frozen (p:=(T (z (A w)+1+1) 2 Z)) g).k D;have K:=ae (u.i.k (j.P u.i.size));have hz1:z (A w)+1+1<z (A ZS):=lj g j.size;clear j c0 c1 c2 H G D;go_wp2;exact bp (v:=ZJ #[ZF (decide (¬ (f p).L=2)),J I (f p).M,U (f p).H]) (by simp[results,results137,go_sem,X,ZL,V]) rfl ⟨rfl,((K.i.setCell (p:=(T (z (A w)+1+1) 0 Z)) (by simp;omega) _).setCell (p:=(T (z (A w)+1+1) 1 Z)) (by simp;omega) _).setCell (p:=(T (z (A w)+1+1) 2 Z)) (by simp;omega) _⟩
def qE (Z9 q n j_:Nat)(f:Nat->au)(p u x o:Nat)(a1:O_)(r:Nat)(w:E)(C:bc f n=ZH)(hp:p<n)(hk:(f p).L=3)(ld:Qk w Z9 q n f)(hI:Q_ w u x (f p).h (f p).q)(JK:SlLink w a1 (f p).f (f p).m)(ZP:Tab2 w)(L:Pow w):Qw Pg 101 #[ZJ #[Y (Q (T Z9 q Z)) n j_],ZJ #[U (f p).e,J I (f p).L,J I (f p).M,U (f p).H,Y (Q (T u x Z)) (f p).h o,Y a1 (f p).f r]] w λe w'=>e=ZI (.tuple #[(bB f p (bD f p)).v,J I (((f p).f:Int) - (bD f p:Int))])/\Below (z (A w)) w w':=by
 have JU:valid (f p).q (f p).h=ZH/\(f p).f<=200:=by
  rcases(ed C p hp).2 with h|h|h;{omega};{omega};{exact⟨h.2.2.2.1,h.2.2.2.2⟩}
 obtain⟨hv,hN⟩:=JU;have Fd:(f p).h<=200:=by have:=(bJ hv).2.2;omega
 have JI:=ae (bJ hv).1;have K:=ae C;have mv:=ae (λj (hj:j<(f p).f) (R:((f p).m j).ask=ZH)=>(⟨(fq C p hp j hj R).1,Nat.lt_trans (fq C p hp j hj R).2.1 hp⟩:0<=((f p).m j).G/\((f p).m j).G.toNat<n));have sm:=ae ld;have HI:=ae hI;have Ke:=ae JK;have JJ:=ae ZP;have V:=ae L;have hib:=hI.1;have JL:=ZP.1;have hpwb:=L.lt;clear C ld hI JK ZP L hv hk;obtain⟨P,n8⟩:∃P,P=bB f p (bD f p):=⟨_,rfl⟩
 obtain⟨S,aq⟩:∃S,S=bD f p:=⟨_,rfl⟩
 rw[<-n8,<-aq];have JM:=ae n8;have O:=ae aq;clear n8 aq;have ZO:=ae (show Below (z (A w)) w (ZV (ZV (ZV w (N #[Y (Q (T Z9 q Z)) n j_] 25)) (N #[U (f p).e,J I (f p).L,J I (f p).M,U (f p).H,Y (Q (T u x Z)) (f p).h o,Y a1 (f p).f r] 62)) (N #[ZF ZA,J I 0,U ⟨#[]⟩,ZF ZA,U ⟨#[]⟩,J I 0] 116)) from(((BS w).alloc ly (N #[Y (Q (T Z9 q Z)) n j_] 25)).alloc (by simp) (N #[U (f p).e,J I (f p).L,J I (f p).M,U (f p).H,Y (Q (T u x Z)) (f p).h o,Y a1 (f p).f r] 62)).alloc (by simp;omega) (N #[ZF ZA,J I 0,U ⟨#[]⟩,ZF ZA,U ⟨#[]⟩,J I 0] 116));have zA:z (A (ZV (ZV (ZV w (N #[Y (Q (T Z9 q Z)) n j_] 25)) (N #[U (f p).e,J I (f p).L,J I (f p).M,U (f p).H,Y (Q (T u x Z)) (f p).h o,Y a1 (f p).f r] 62)) (N #[ZF ZA,J I 0,U ⟨#[]⟩,ZF ZA,U ⟨#[]⟩,J I 0] 116)))=z (A w)+3:=by simp
 have kA:ZW (ZV (ZV (ZV w (N #[Y (Q (T Z9 q Z)) n j_] 25)) (N #[U (f p).e,J I (f p).L,J I (f p).M,U (f p).H,Y (Q (T u x Z)) (f p).h o,Y a1 (f p).f r] 62)) (N #[ZF ZA,J I 0,U ⟨#[]⟩,ZF ZA,U ⟨#[]⟩,J I 0] 116)) (T (z (A w)) 0 Z)=Q (Y (Q (T Z9 q Z)) n j_):=by simp[go_sem]
 have Kb:ZW (ZV (ZV (ZV w (N #[Y (Q (T Z9 q Z)) n j_] 25)) (N #[U (f p).e,J I (f p).L,J I (f p).M,U (f p).H,Y (Q (T u x Z)) (f p).h o,Y a1 (f p).f r] 62)) (N #[ZF ZA,J I 0,U ⟨#[]⟩,ZF ZA,U ⟨#[]⟩,J I 0] 116)) (T (z (A w)+1) 4 Z)=Q (Y (Q (T u x Z)) (f p).h o):=by simp[go_sem]
 have ZN:ZW (ZV (ZV (ZV w (N #[Y (Q (T Z9 q Z)) n j_] 25)) (N #[U (f p).e,J I (f p).L,J I (f p).M,U (f p).H,Y (Q (T u x Z)) (f p).h o,Y a1 (f p).f r] 62)) (N #[ZF ZA,J I 0,U ⟨#[]⟩,ZF ZA,U ⟨#[]⟩,J I 0] 116)) (T (z (A w)+1) 5 Z)=Q (Y a1 (f p).f r):=by simp[go_sem]
 have XA:=ae (by have h:=lm (ZV (ZV w (N #[Y (Q (T Z9 q Z)) n j_] 25)) (N #[U (f p).e,J I (f p).L,J I (f p).M,U (f p).H,Y (Q (T u x Z)) (f p).h o,Y a1 (f p).f r] 62)) (ZF ZA) (J I 0) (U ⟨#[]⟩) (ZF ZA) (U ⟨#[]⟩) (J I 0) 116;rw[show(z (A (ZV (ZV w (N #[Y (Q (T Z9 q Z)) n j_] 25)) (N #[U (f p).e,J I (f p).L,J I (f p).M,U (f p).H,Y (Q (T u x Z)) (f p).h o,Y a1 (f p).f r] 62))))=z (A w)+1+1 by simp] at h;exact h);have S0:Sim m0 0 0 0 []:=⟨trivial,rfl,by simp,rfl,rfl,rfl,by simp,by omega,by omega,by omega⟩
 obtain⟨H0,DQ,Id,JN⟩:=pw (f:=(f p).q) (yh:=(f p).h) (m:=m0) rfl S0;have Kc:=ae DQ;have JY:=ae Id;have JZ:=ae JN;clear DQ Id JN S0;go_enter func101,ntmps101;go_wp2_with fail;generalize World.alloc (World.alloc (World.alloc w _) _) _=WA at ZO zA kA Kb ZN XA ⊢;refine(Bv u x (f p).h o _).P ?_;rintro e w1⟨b,rfl,hb,ZM,Fk⟩;have JG:=ae ZM;have B1:Hid (Below (z (A w)+3) WA w1):=by show Below _ _ _;rw[<-zA];exact Fk
 have GS:z (A w)+3<=b:=by omega
 have hb1:b<z (A w1):=ZM.lt;have fd:=ae (ZO.i.k (B1.i.P (by omega)));clear ZM Fk hb;have th:Hid (Env w1 b u x (f p).h (f p).q):=⟨HI.i.aa fd.i ly,JJ.i.aa fd.i JL,V.i.aa fd.i ly,by omega,by omega,by omega⟩
 go_wp2_with fail;refine(qD b u x (f p).h o (f p).q m0 H0 ⟨ZA,0,⟨#[]⟩⟩ _ JG.i th.i rfl Fd JI.i Kc.i).P ?_;rintro e w2⟨Z8,rfl,JS,At,ur⟩;have qr:=ae JS;have J7:=ae At;have B2:=ae (B1.i.k (ur.aa GS (by have:=B1.i.size;omega)));clear JS At ur JG th;simp only[Turn.v];have DE:=ae (qr.i.al (N #[ZF Z8.t.K,J I Z8.t.M,U Z8.t.H,ZF Z8.t.ask,U Z8.t.e,J I Z8.t.j] 116));have ex:=ae (E7 w2 Z8.t 116);have B3:=ae (B2.i.alloc (by have:=B2.i.size;omega) (N #[ZF Z8.t.K,J I Z8.t.M,U Z8.t.H,ZF Z8.t.ask,U Z8.t.e,J I Z8.t.j] 116));have d5:=(B3.i.O (p:=(T (z (A w)+1) 5 Z)) (show (z (A w))+1<z (A w)+3 by omega)).k ZN;have JR:z (A w)+3<=z (A w2):=by have:=B2.i.size;omega
 have JV:b<z (A w2):=qr.i.lt;go_wp2;clear d5 qr B2;generalize World.alloc w2 _=W3 at DE ex B3 ⊢;generalize (z (A w2))=g7 at ex JR JV ⊢;go_loopw [19] (λi wr=>∃(k:Nat) (s:Mst) (H:Halt),k<=(f p).f/\i=J I k/\Hid (MAt wr b (Y (Q (T u x Z)) (f p).h o) s)/\Hid (TurnBox wr g7 s.t)/\Hid (fh s H)/\Hid (gP k H)/\Hid (∀n,k<=n->eC (f p).q (f p).h (yOf f p) n H=cA (f p).q (f p).h (yOf f p) n 2001 0 0 0 [])/\Hid (eF f p ((f p).f - k) k=bD f p)/\Hid (Below (z (A w)+3) WA wr)) (λi _=>(f p).f - (intOf i).toNat);case atStart=>exact⟨0,Z8,H0,by omega,rfl,DE.i,ex.i,J7.i,JY.i,λn _=>JZ.i (yOf f p) n,rfl,B3.i⟩
 case round =>
  obtain⟨k,s,H,hkN,rfl,HM,TB,HS,HL,HC,ro,BW⟩:=hrel;have ph:=ae (ZO.i.k (BW.i.P (by omega)));have la:Hid (s.t=bB f p k):=by show _=_;rw[<-oP (f:=(f p).q) (yh:=(f p).h) (y:=yOf f p) HS.i HL.i];exact HC.i k ly
  by_cases bt:k<(f p).f
  ·obtain⟨bl,offl,rfl,Bk⟩:=(Ke.i.aa ph.i ly).resolve_left (by omega);obtain⟨r0,r1,r2,r3⟩:=Bk.2 k bt;obtain⟨l,hl⟩:∃l,(f p).m k=l:=⟨_,rfl⟩
   rw[hl] at r0 r1 r2 r3;obtain⟨nm,ask,ZS,at_⟩:=l;dsimp only at r0 r1 r2 r3;have D:=ae hl;clear Bk hl;obtain⟨j0,JQ⟩:∃j0,(f p).f - k=j0+1:=⟨(f p).f - k - 1,by omega⟩
   have G:=ae (BW.i.alloc (by have:=BW.i.size;omega) (N #[U nm,ZF ask,ZF ZS,J I at_] 65));have TL:=ae (TB.i.aa ((BS wr).alloc ly (N #[U nm,ZF ask,ZF ZS,J I at_] 65)) TB.i.1);have ML:=ae (HM.i.al (N #[U nm,ZF ask,ZF ZS,J I at_] 65));obtain⟨tl,⟨t0,t1,t2,t3,t4,t5⟩,tz⟩:=TL.i;clear tz;have WY:(eA f p k=ZH/\(s.t.K=ZH\/s.t.K=ZA/\((s.t.e.toList == nm.toList)=ZA\/(s.t.e.toList == nm.toList)=ZH/\(s.t.ask=ZH/\ask=ZA\/s.t.ask=ZA/\ask=ZH))))\/(eA f p k=ZA/\s.t.K=ZA/\(s.t.e.toList == nm.toList)=ZH/\s.t.ask=ask):=by unfold eA;rw[<-la.i,D.i];cases s.t.K<;>cases (s.t.e.toList == nm.toList)<;>cases s.t.ask<;>cases ask<;>simp
   rcases WY with⟨ZZ,WY⟩|⟨ZZ,M,hn,ZT⟩
   ·replace ZZ:=ae ZZ;have ZR:Hid (S=k):=by show _=_;rw[O.i,<-ro.i,JQ,vi ZZ.i]
    have ZL:Hid (P=s.t):=by show _=_;rw[JM.i,<-O.i,ZR.i,la.i]
    have d5:=(G.i.O (p:=(T (z (A w)+1) 5 Z)) (show (z (A w))+1<z (A w)+3 by omega)).k ZN;have X:=ae (ZO.i.k (G.i.P (by omega)));have SX:=ae (XA.i.aa G.i (by omega));have hx:=SX.i.1;obtain⟨⟨v0,q0,y0⟩,⟨v1,q1,y1⟩,⟨v2,q2,y2⟩,⟨v3,q3,y3⟩,⟨v4,q4,y4⟩,⟨v5,q5,y5⟩⟩:=bl6 SX.i.2;rcases WY with M|⟨M,hn|⟨hn,⟨ZT,rfl⟩|⟨ZT,rfl⟩⟩⟩
    all_goals
     rw[M] at t0
     (try rw[ZT] at t3)
     go_wp2_with fail;go_region;all_goals
      go_wp2;exact bp (v:=.tuple #[P.v,J I (((f p).f:Int) - (S:Int))]) (by rw[ZL.i,ZR.i];first|simp[results,results101,go_sem,Turn.v,M,ZT,q0,q1,q2,q3,q4,q5]|simp[results,results101,go_sem,Turn.v,M,q0,q1,q2,q3,q4,q5]) rfl ⟨rfl,(fX X.i (by omega) _ _ _ _ _ _).drew⟩
   ·replace ZZ:=ae ZZ;rw[M] at t0;rw[ZT] at t3;obtain⟨a,J9,s2,pp,st,l,rfl⟩:=oQ HS.i M;have el:l=k+1:=HL.i;subst el;have Fm:=(G.i.O (p:=(T (z (A w)) 0 Z)) (show (z (A w))<z (A w)+3 by omega)).k kA;have X:=ae (ZO.i.k (G.i.P (by omega)));have HY:Hid (eJ f ⟨nm,ask,ZS,at_⟩=yOf f p k):=by show _=_;unfold yOf;rw[D.i]
    have J0:=ae (yg (l:=⟨nm,ask,ZS,at_⟩) K.i (λR=>by have:=mv.i k bt (by rw[D.i];exact R);rw[D.i] at this;exact this.2));have J8:Hid ((eJ f ⟨nm,ask,ZS,at_⟩).H.size<=2000):=by have:=J0.i;simp only[cI,nD] at this;exact this.1
    have J6:Hid (ask=ZH->0<=at_/\at_.toNat<n):=λR=>by have:=mv.i k bt (by rw[D.i];exact R);rw[D.i] at this;exact this
    cases ask
    all_goals
     go_wp2_with fail;clear t0 t1 t2 t3 t4 t5 r0 r1 r2 r3;generalize World.alloc wr _=WL at G TL ML X Fm tl ⊢;first|(guard_hyp ZT:s.t.ask=ZH;refine(oR Z9 q n j_ f ⟨nm,ZH,ZS,at_⟩ _ K.i (sm.i.aa X.i ly) (λ_=>J6.i (by simp))).P ?_)|refine(oR Z9 q n j_ f ⟨nm,ZA,ZS,at_⟩ _ K.i (sm.i.aa X.i ly) (λh=>by cases h)).P ?_
     rintro e w4⟨rfl,ZQ⟩;have J4:b<z (A WL):=ML.i.lt;have M4:=ae (ML.i.aa ZQ J4);have T4:=ae (TL.i.aa ZQ tl);have B4:=ae (G.i.k (ZQ.P (by have:=G.i.size;omega)));have n9:=ae (ZO.i.k (B4.i.P (by omega)));have JW:Hid (Env w4 b u x (f p).h (f p).q):=⟨HI.i.aa n9.i ly,JJ.i.aa n9.i JL,V.i.aa n9.i ly,by omega,by omega,by omega⟩
     clear ZQ Fm;go_wp2_with fail;refine(sL b u x (f p).h o (f p).q s a J9 s2 pp st (k+1) _ _ M4.i JW.i HS.i (by omega) J8.i Fd JI.i).P ?_;rintro e w5⟨m2,H2,rfl,JT,JH,JO,JP,W⟩;have Hx:g7≠b:=by omega
     have T5:=ae (T4.i.ac W Hx);have M5:=ae (JT.boxed Hx m2.t);have X5:=ae (Hk m2.t T5.i);have B5:=ae (B4.i.k (W.aa GS (by have:=B4.i.size;omega)));have B6:=ae (B5.i.k ((vf (w:=w5) (g:=g7) m2.t).aa JR (by have:=B5.i.size;omega)));have J5:=ae JH;have Kd:=ae JO;have Ka:Hid (∀n,k+1<=n->eC (f p).q (f p).h (yOf f p) n H2=cA (f p).q (f p).h (yOf f p) n 2001 0 0 0 []):=λn hn=>(JP (yOf f p) n hn (by rw[QR];exact HY.i.c)).c.k (HC.i n (by omega));have JX:Hid (eF f p ((f p).f - (k+1)) (k+1)=bD f p):=by show _=_;rw[<-ro.i,JQ,vh ZZ.i,show(f p).f - (k+1)=j0 by omega]
     obtain⟨ul,⟨u0,u1,u2,u3,u4,u5⟩,uz⟩:=T5.i;obtain⟨z0,z1,z2,z3,z4,z5⟩:=al6 uz;clear JT JH JO JP W M4 T4 uz;simp only[Turn.v];go_wp2;exact⟨⟨k+1,m2,H2,by omega,by go_num,M5.i,X5.i,J5.i,Kd.i,Ka.i,JX.i,B6.i⟩,by simp[intOf];omega⟩
  ·obtain rfl:k=(f p).f:=by omega
   have ZR:Hid (S=(f p).f):=by show _=_;rw[O.i,<-ro.i,UV];rfl
   have ZL:Hid (P=s.t):=by show _=_;rw[JM.i,<-O.i,ZR.i,la.i]
   obtain⟨tl,⟨t0,t1,t2,t3,t4,t5⟩,tz⟩:=TB.i;have SX:=ae (XA.i.aa BW.i (by omega));have hx:=SX.i.1;obtain⟨⟨v0,q0,y0⟩,⟨v1,q1,y1⟩,⟨v2,q2,y2⟩,⟨v3,q3,y3⟩,⟨v4,q4,y4⟩,⟨v5,q5,y5⟩⟩:=bl6 SX.i.2;clear tz;go_wp2;exact bp (v:=.tuple #[P.v,J I (((f p).f:Int) - (S:Int))]) (by rw[ZL.i,ZR.i];simp[results,results101,go_sem,Turn.v,q0,q1,q2,q3,q4,q5]) rfl ⟨rfl,by first|exact fX ph.i (by omega) _ _ _ _ _ _|exact fX ph.i.drew (by omega) _ _ _ _ _ _⟩
def jS (f:Nat->au)(p:Nat):Bool:=if (f p).L=3 then (!(bB f p (bD f p)).K || decide (bD f p<(f p).f)) else ZA
def py (f:Nat->au)(p:Nat):Bool:=if (f p).L=3 then (!decide ((bB f p (bD f p)).M=(f p).M) || !((bB f p (bD f p)).H.toList == (f p).H.toList)) else ZA
def Hu (f:Nat->au)(p:Nat):codeF f p=if jS f p=ZH then 4 else if py f p=ZH then 5 else 0:=by
 unfold codeF jS py;by_cases b:(f p).L=3
 ·rw[eT b,eT b,eT b];unfold gB;by_cases h1:bD f p<(f p).f;{simp[h1]}
  ·cases ho:(bB f p (bD f p)).K with
   |false=>simp[h1]
   |true =>
    by_cases h2:(bB f p (bD f p)).M=(f p).M
    ·by_cases g:(bB f p (bD f p)).H.toList=(f p).H.toList;{simp[h1,h2,g]}
     ·have h:((bB f p (bD f p)).H.toList == (f p).H.toList)=ZA:=by simpa using g
      simp[h1,h2,g,h]
    {simp[h1,h2]}
 {rw[eI b,eI b,eI b];simp}
def nM{f:Nat->Ins}(h:SlIns w a n f)(j:valid f n=ZH):∃g i,a=Q (T g i Z)/\Q_ w g i n f:=by
 have hn:=(bJ j).2;rcases h with h|⟨b,off,e,l⟩
 {omega};{exact⟨b,off,e,l⟩}
def xq (K:O_)(D M:Nat)(G:O_)(H ZT:Nat)(C b n j_:Nat)(f:Nat->au)(p:Nat)(a0:O_)(i:Nat)(a1:O_)(j:Nat)(w:E)(l:bc f n=ZH)(hp:p<n)(u:Qk w C b n f)(ZP:SlIns w a0 (f p).h (f p).q)(ZQ:SlLink w a1 (f p).f (f p).m)(o:Tab2 w)(Z8:Pow w):Qw Pg 63 #[ZJ #[Y (Q (T C b Z)) n j_,Y K D M,Y G H ZT],ZJ #[U (f p).e,J I (f p).L,J I (f p).M,U (f p).H,Y a0 (f p).h i,Y a1 (f p).f j]] w λe w'=>e=ZI (ZF (jS f p))/\Below (z (A w)) w w':=by
 obtain⟨r,R⟩:∃r,r=jS f p:=⟨_,rfl⟩
 rw[<-R];have ZO:=ae (show r=if (f p).L=3 then (!(bB f p (bD f p)).K || decide (bD f p<(f p).f)) else ZA from R);clear R;have Z9:=ae (((BS w).alloc ly (N #[Y (Q (T C b Z)) n j_,Y K D M,Y G H ZT] 107)).alloc (by simp) (N #[U (f p).e,J I (f p).L,J I (f p).M,U (f p).H,Y a0 (f p).h i,Y a1 (f p).f j] 62));have S:=ae u;have HI:=ae ZP;have ZL:=ae ZQ;have ZM:=ae o;have O:=ae Z8;have bt:=o.1;clear u ZP ZQ o Z8;by_cases m:(f p).L=3
 ·have ZZ:valid (f p).q (f p).h=ZH:=by
   rcases(ed l p hp).2 with h|h|h;{omega};{omega};{exact h.2.2.2.1}
  obtain⟨pb,po,rfl,ZS⟩:=nM HI.i ZZ;have aq:=ae ZS;have HK:=ae m;have x:Hid (r=(!(bB f p (bD f p)).K || decide (bD f p<(f p).f))):=by show _=_;rw[ZO.i,eT m]
  have L:=px f p (f p).f 0;have ZR:Hid (bD f p<=(f p).f):=by show eF f p (f p).f 0<=_;omega
  have P:=ae l;rw[m] at Z9;clear ZS ZZ HI l L ZO;have y:=λW (g:Below (z (A w)) w W)=>qE C b n j_ f p pb po i a1 j W P.i hp HK.i (S.i.aa g ly) (aq.i.aa g ly) (ZL.i.aa g ly) (ZM.i.aa g bt) (O.i.aa g ly);generalize bB f p (bD f p)=t at x y;generalize bD f p=q at x y ZR;rw[m] at y;have V:=ae y;clear y;rw[m];go_enter func63,ntmps63;go_wp2_with fail;refine(V.i _ Z9.i).P ?_;rintro e w1⟨rfl,g⟩;have ZN:=ae (Z9.i.k (g.P Z9.i.size));have s:=ae (ZN.i.alloc ZN.i.size (N #[ZF t.K,J I t.M,U t.H,ZF t.ask,U t.e,J I t.j] 116));have L:=ZR.i;clear g;simp only[Turn.v];cases ho:t.K with
  |false =>
   obtain rfl:r=ZH:=by rw[x.i,ho];rfl
   rw[ho] at s;go_wp2;go_ret;exact⟨rfl,s.i⟩
  |true =>
   rw[ho] at s;by_cases X:q<(f p).f
   ·obtain rfl:r=ZH:=by rw[x.i,ho];simp[X]
    have hgt:(0:Int)<((f p).f:Int) - (q:Int):=by omega
    go_wp2;go_ret;exact⟨rfl,s.i⟩
   ·obtain rfl:r=ZA:=by rw[x.i,ho];simp[X]
    have hz:((f p).f:Int) - (q:Int)=0:=by omega
    rw[hz];go_wp2;go_ret;exact⟨rfl,s.i⟩
 ·obtain rfl:r=ZA:=by rw[ZO.i,eI m]
  go_enter func63,ntmps63;go_wp2;go_ret;exact⟨rfl,Z9.i⟩
def BP (K:O_)(ZT L:Nat)(H:O_)(ZS G:Nat)(C g n j_:Nat)(f:Nat->au)(p:Nat)(a0:O_)(i:Nat)(a1:O_)(j:Nat)(w:E)(l:bc f n=ZH)(hp:p<n)(u:Qk w C g n f)(ZP:SlIns w a0 (f p).h (f p).q)(M:SlLink w a1 (f p).f (f p).m)(s:Tab2 w)(Z8:Pow w):Qw Pg 64 #[ZJ #[Y (Q (T C g Z)) n j_,Y K ZT L,Y H ZS G],ZJ #[U (f p).e,J I (f p).L,J I (f p).M,U (f p).H,Y a0 (f p).h i,Y a1 (f p).f j]] w λe w'=>e=ZI (ZF (py f p))/\Below (z (A w)) w w':=by
 obtain⟨r,R⟩:∃r,r=py f p:=⟨_,rfl⟩
 rw[<-R];have ZO:=ae (show r=if (f p).L=3 then (!decide ((bB f p (bD f p)).M=(f p).M) || !((bB f p (bD f p)).H.toList == (f p).H.toList)) else ZA from R);clear R;have Z9:=ae (((BS w).alloc ly (N #[Y (Q (T C g Z)) n j_,Y K ZT L,Y H ZS G] 107)).alloc (by simp) (N #[U (f p).e,J I (f p).L,J I (f p).M,U (f p).H,Y a0 (f p).h i,Y a1 (f p).f j] 62));have S:=ae u;have ZM:=ae ZP;have V:=ae M;have X:=ae s;have O:=ae Z8;have aq:=s.1;clear u ZP M s Z8;by_cases o:(f p).L=3
 ·have ZZ:valid (f p).q (f p).h=ZH:=by
   rcases(ed l p hp).2 with h|h|h;{omega};{omega};{exact h.2.2.2.1}
  obtain⟨pb,po,rfl,ZR⟩:=nM ZM.i ZZ;have ZL:=ae ZR;have HK:=ae o;have x:Hid (r=(!decide ((bB f p (bD f p)).M=(f p).M) || !((bB f p (bD f p)).H.toList == (f p).H.toList))):=by show _=_;rw[ZO.i,eT o]
  have P:=ae l;rw[o] at Z9;clear ZR ZZ ZM l ZO;have y:=λW (b:Below (z (A w)) w W)=>qE C g n j_ f p pb po i a1 j W P.i hp HK.i (S.i.aa b ly) (ZL.i.aa b ly) (V.i.aa b ly) (X.i.aa b aq) (O.i.aa b ly);generalize bB f p (bD f p)=t at x y;generalize bD f p=q at x y;rw[o] at y;have ZN:=ae y;clear y;rw[o];go_enter func64,ntmps64;go_wp2_with fail;refine(ZN.i _ Z9.i).P ?_;rintro e ZQ⟨rfl,b⟩;have d2:ZW ZQ (T (z (A w)+1) 2 Z)=Q (J I (f p).M):=(b.O (p:=(T (z (A w)+1) 2 Z)) (by simp)).k (by simp[go_sem]);have d3:ZW ZQ (T (z (A w)+1) 3 Z)=Q (U (f p).H):=(b.O (p:=(T (z (A w)+1) 3 Z)) (by simp)).k (by simp[go_sem]);have hz1:z (A w)+1<z (A ZQ):=by have:=b.size;simp at this;omega
  have m:=ae (Z9.i.k (b.P Z9.i.size));clear b;simp only[Turn.v];by_cases D:t.M=(f p).M
  ·cases ht:(t.H.toList == (f p).H.toList) with
   |true =>
    obtain rfl:r=ZA:=by rw[x.i];simp[D,ht]
    go_wp2;go_ret;exact⟨rfl,m.i.alloc m.i.size _⟩
   |false =>
    obtain rfl:r=ZH:=by rw[x.i];simp[D,ht]
    go_wp2;go_ret;exact⟨rfl,m.i.alloc m.i.size _⟩
  ·obtain rfl:r=ZH:=by rw[x.i];simp[D]
   have hc2:(t.M == (f p).M)=ZA:=by simpa using D
   go_wp2;go_ret;exact⟨rfl,m.i.alloc m.i.size _⟩
 ·obtain rfl:r=ZA:=by rw[ZO.i,eI o]
  go_enter func64,ntmps64;go_wp2;go_ret;exact⟨rfl,Z9.i⟩
def nN (q b n j_:Nat)(f:Nat->au)(l:Link)(w:E)(j:Qk w q b n f)(s:l.ask=ZH->0<=l.G/\l.G.toNat<n):Qw Pg 68 #[ZJ #[Y (Q (T q b Z)) n j_],ZJ #[U l.e,ZF l.ask,ZF l.has,J I l.G]] w λe w'=>e=ZI (ZJ #[ZF (eJ f l).has,J I (eJ f l).M,U (eJ f l).H])/\Below (z (A w)) w w':=by
 have x:=ae j;have o:=ae s;have i:=ae (show eJ f l=if l.ask=ZH then (if (f l.G.toNat).L=1 then ⟨ZH,0,(f l.G.toNat).H⟩ else if (f l.G.toNat).L=3 then ⟨ZH,(f l.G.toNat).M,(f l.G.toNat).H⟩ else ⟨ZA,0,⟨#[]⟩⟩) else ⟨l.has,0,⟨#[]⟩⟩ from rfl);clear j s;obtain⟨R,hR⟩:∃R,R=eJ f l:=⟨_,rfl⟩
 rw[<-hR] at i ⊢;clear hR;obtain⟨nm,ask,r,at_⟩:=l;dsimp only at o i ⊢;have ZZ:=ae ((((BS w).alloc ly (N #[Y (Q (T q b Z)) n j_] 25)).alloc (by simp) (N #[U nm,ZF ask,ZF r,J I at_] 65)).alloc (by simp;omega) (N #[ZF ZA,J I 0,U ⟨#[]⟩] 119));cases ask with
 |false =>
  obtain rfl:R=⟨r,0,⟨#[]⟩⟩:=by have:=i.i;simpa using this
  dsimp only;go_enter func68,ntmps68;go_wp2
  exact bp (v:=ZJ #[ZF r,J I 0,U ⟨#[]⟩]) (by simp[results,YL,go_sem]) rfl ⟨rfl,by
   repeat (first|exact a8 _ _|refine VG ?_ (by simp<;>omega) _)⟩
 |true =>
  obtain⟨h1,h2⟩:=o.i rfl;obtain⟨p,rfl⟩:=p9 h1;have y:p<n:=by simpa using h2
  have g:=ae (show R=if (f p).L=1 then ⟨ZH,0,(f p).H⟩ else if (f p).L=3 then ⟨ZH,(f p).M,(f p).H⟩ else ⟨ZA,0,⟨#[]⟩⟩ by have:=i.i;simpa using this);clear i;obtain⟨p0,p1,p2,p3,⟨a2,cap2,p4,u⟩,⟨a3,cap3,p5,t⟩⟩:=(x.i.aa ZZ.i ly).2 p y;clear u t o;have hpn:(p:Int)<n:=by omega
  go_enter func68,ntmps68;by_cases h:(f p).L=1
  ·obtain rfl:R=⟨ZH,0,(f p).H⟩:=by rw[g.i,eT h]
   go_wp2
   exact bp (v:=ZJ #[ZF ZH,J I 0,U (f p).H]) (by simp[results,YL,go_sem]) rfl ⟨rfl,by
    repeat (first|exact a8 _ _|refine VG ?_ (by simp<;>omega) _)⟩
  ·by_cases m:(f p).L=3
   ·obtain rfl:R=⟨ZH,(f p).M,(f p).H⟩:=by rw[g.i,eI h,eT m]
    go_wp2
    exact bp (v:=ZJ #[ZF ZH,J I (f p).M,U (f p).H]) (by simp[results,YL,go_sem]) rfl ⟨rfl,by
     repeat (first|exact a8 _ _|refine VG ?_ (by simp<;>omega) _)⟩
   ·obtain rfl:R=⟨ZA,0,⟨#[]⟩⟩:=by rw[g.i,eI h,eI m]
    go_wp2
    exact bp (v:=ZJ #[ZF ZA,J I 0,U ⟨#[]⟩]) (by simp[results,YL,go_sem]) rfl ⟨rfl,by
     repeat (first|exact a8 _ _|refine VG ?_ (by simp<;>omega) _)⟩
