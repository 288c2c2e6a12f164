import Derived.Test.YthkgkfehliinfaaGreatDoorFQ
import Derived.Deep.WholeRow
import Derived.Deep.DeepCutAuto
set_option linter.all false
set_option maxRecDepth 1000000
set_option maxHeartbeats 8000000
open Go renaming Addr.mk->Q,Value.slice->Y,Value.string->U,Value.int->J,Value.bool->ZF,Value.agg->ZJ,Obj.cells->N,IntKind.i64->I,World->E,Value->ZB,TypeId->ZK,Ending.returned->ZI,World.heap->A,World.ownsRow->ZY,World.alloc->ZV,World.cell?->ZW,World.frozen?->ZX,World.setCell->B,Proofs.Tryz.prog->Pg
open Option renaming none->Z,some->T
open Bool renaming false->ZA,true->ZH
open Array renaming size->z
open List renaming length->ZU
namespace Go.Proofs.YthkgkfehliinfaaGreatDoor.Vp
open Tryz RowKit
variable {w w' u:E}{g base n j_ b p Z9 j l op:Nat}{e:ZK}{m:Mst}{f:Nat->au}{s r:List F_}{y:Nat->aD}{x:F_}{H:Halt}{t:Turn}{i:List ZB}{a:O_}
def EV (w b:E)(f:Array ZB)(ty:ZK)(ZO:Obj)(j:Nat)(v:ZB)(hz:z (A b)=z (A w))(g:f[j]?=T v):((b.alloc (N f ty)).alloc ZO).cell? (Q (z (A w)) j Z)=T v:=by rw[<-hz,((a8 (b.alloc (N f ty)).heap.size _).alloc ly ZO).O (p:=(Q (z (A b)) j Z)) (by simp)];simp[g]
def kK (m:Mst)(c:Int):Turn:=⟨ZH,c,m.t.e,ZA,⟨#[]⟩,m.j⟩
def Bt{f:ZB}(hM:MAt w b f m)(x:Bool)(c:Int)(t:F_):∃W,ZV (ZV (B (B (B (B (B (B w (Q b 55 Z) (ZF ZA)) (Q b 56 Z) (J I 0)) (Q b 57 Z) (U ⟨#[]⟩)) (Q b 58 Z) (ZF ZA)) (Q b 59 Z) (U ⟨#[]⟩)) (Q b 60 Z) (J I 0)) (N #[ZF x,J I c,U t] 141)) (N #[ZF m.t.L,J I m.t.M,U m.t.H,ZF m.t.ask,U m.t.e,J I m.t.j] 138)=W/\MAt W b f { m with t:=dk }/\zd b w W/\ZW W (Q (z (A w)) 0 Z)=T (ZF x)/\ZW W (Q (z (A w)) 1 Z)=T (J I c)/\ZW W (Q (z (A w)) 2 Z)=T (U t)/\ZW W (Q (z (A w)+1) 3 Z)=T (ZF m.t.ask)/\ZW W (Q (z (A w)+1) 4 Z)=T (U m.t.e)/\(z (A W))=z (A w)+2:=
 ⟨_,rfl,((hM.setTurn dk).al _).al _,((GC (zd.refl b w) dk).al _).al _,EV w _ _ _ _ _ _ (by simp) rfl,EV w _ _ _ _ _ _ (by simp) rfl,EV w _ _ _ _ _ _ (by simp) rfl,kH _ _ _ _ _ _ (by simp) rfl,kH _ _ _ _ _ _ (by simp) rfl,by simp⟩
def nH (m:Mst)(x:Bool)(c:Int)(t:F_):Mst:=
 if m.t.ask=ZA then { m with t:=dk,S:=upd m.S m.size (eU x),size:=m.size+1 } else if x=ZA then { m with t:=kK m 4 } else if (c == 0)=ZA then { m with t:=kK m 5 } else { m with t:=dk,S:=upd m.S m.size t,size:=m.size+1 }
def EY{u:Mst}{x:Bool}{c:Int}{t:F_}(h:u=nH m x c t):(m.t.ask=ZA/\u={ m with t:=dk,S:=upd m.S m.size (eU x),size:=m.size+1 })\/(m.t.ask=ZH/\x=ZA/\u={ m with t:=kK m 4 })\/(m.t.ask=ZH/\x=ZH/\(c == 0)=ZA/\u={ m with t:=kK m 5 })\/(m.t.ask=ZH/\x=ZH/\c=0/\u={ m with t:=dk,S:=upd m.S m.size t,size:=m.size+1 }):=by unfold nH at h;cases ha:m.t.ask<;>cases x<;>cases hc:(c == 0)<;>simp_all
def jp (b:Nat)(i:ZB)(m:Mst)(x:Bool)(c:Int)(t:F_)(w:E)(hM:MAt w b i m)(K:m.size<50):Calls Pg 175 #[.pointer (T (Q b 0 Z)),ZJ #[ZF x,J I c,U t]] w λe w'=>e=ZI (.tuple #[])/\MAt w' b i (nH m x c t)/\zd b w w':=by
 obtain⟨u,r⟩:∃u,u=nH m x c t:=⟨_,rfl⟩
 rw[<-r];have Z9:=ae (EY r);clear r;have hlt:=hM.lt;obtain⟨⟨c5,H⟩,⟨ZT,G⟩,⟨L,P⟩,⟨ZQ,ZR⟩,⟨M,O⟩,C,D⟩:=hM.turn;obtain⟨W,Z8,n,p,q0,q1,q2,ZS,p4,hz⟩:=Bt hM x c t;have ZZ:=ae Z8;have h:=ae n;have q:=ae p;clear hM Z8 n p;go_enter func175,ntmps175;go_upto_region 4 with fail;rw[ZZ.i];clear ZZ c5 ZT L ZQ M C H G P ZR O D;have hz0:z (A w)<z (A W):=by omega
 have hz1:z (A w)+1<z (A W):=by omega
 clear hz;rcases Z9.i with⟨j,rfl⟩|⟨j,rfl,rfl⟩|⟨j,rfl,hc,rfl⟩|⟨j,rfl,rfl,rfl⟩
 all_goals
  rw[j] at ZS;clear Z9;go_wp2_with (go_at_call 197;refine(kQ b i { m with t:=dk } _ _ _ h).P ?_;rintro e s⟨rfl,f,g⟩;have o:=ae f;have l:Hid (zd b w s):=q.k g;clear f g)
  (try go_region_with (first|(go_at_call 196;refine(nC _ _).P ?_;rintro e w1⟨rfl,y⟩;subst y)|(go_at_call 195;refine(rh b i { m with t:=dk } _ _ ?_ K).P ?_;(first|exact h|exact h.drew|exact h.drew.drew);rintro e s⟨rfl,f,g⟩;have o:=ae f;have l:Hid (zd b w s):=zd.k (by repeat (first|exact q|apply zd.drew)) g;clear f g)))
  all_goals
   (try go_wp2)
   refine nd rfl rfl ?_;exact⟨rfl,o,l⟩
def zH (b:Nat)(f:ZB)(m:Mst)(x:Bool)(c:Int)(t:F_)(w:E)(hM:MAt w b f m)(g:m.t.ask=ZA)(i:m.size<50):Calls Pg 175 #[.pointer (T (Q b 0 Z)),ZJ #[ZF x,J I c,U t]] w λe w'=>e=ZI (.tuple #[])/\MAt w' b f { m with t:=dk,S:=upd m.S m.size (eU x),size:=m.size+1 }/\zd b w w':=by have h:=jp b f m x c t w hM i;rwa[nH,eT g] at h
def zI (b:Nat)(f:ZB)(m:Mst)(t:F_)(w:E)(hM:MAt w b f m)(g:m.t.ask=ZH)(i:m.size<50):Calls Pg 175 #[.pointer (T (Q b 0 Z)),ZJ #[ZF ZH,J I 0,U t]] w λe w'=>e=ZI (.tuple #[])/\MAt w' b f { m with t:=dk,S:=upd m.S m.size t,size:=m.size+1 }/\zd b w w':=by have h:=jp b f m ZH 0 t w hM i;rwa[nH,eI (by simp[g]),eI (by simp),eI (by simp)] at h
def rH (b:Nat)(f:ZB)(m:Mst)(c:Int)(t:F_)(w:E)(hM:MAt w b f m)(g:m.t.ask=ZH)(i:m.size<50):Calls Pg 175 #[.pointer (T (Q b 0 Z)),ZJ #[ZF ZA,J I c,U t]] w λe w'=>e=ZI (.tuple #[])/\MAt w' b f { m with t:=kK m 4 }/\zd b w w':=by have h:=jp b f m ZA c t w hM i;rwa[nH,eI (by simp[g]),eT rfl] at h
def vb (b:Nat)(f:ZB)(m:Mst)(c:Int)(t:F_)(w:E)(hM:MAt w b f m)(i:m.t.ask=ZH)(g:(c == 0)=ZA)(j:m.size<50):Calls Pg 175 #[.pointer (T (Q b 0 Z)),ZJ #[ZF ZH,J I c,U t]] w λe w'=>e=ZI (.tuple #[])/\MAt w' b f { m with t:=kK m 5 }/\zd b w w':=by have h:=jp b f m ZH c t w hM j;rwa[nH,eI (by simp[i]),eI (by simp),eT g] at h
def m0:Mst:={ S:=λ_=>⟨#[]⟩,size:=0,av:=0,j:=0,D:=0,t:=dk }
def fD (b:ZB):Array ZB:=(Array.range 61).map (m0.F b)
def Bu (a:O_)(n j_:Nat):Pg.built 254 [(1,Y a n j_)]=T (fD (Y a n j_)):=by kernel_rfl
def infoM:(Pg.info? 254).map (·.size)=T 61:=by kernel_rfl
def jq (b:ZB):(fD b).size=61:=by simp[fD]
def EZ (b:ZB)(j:Nat)(h:j<61):(fD b)[j]?=T (m0.F b j):=by simp[fD,h]
def sK (a:O_)(n j_:Nat):(fD (Y a n j_)).all (·.oneCell')=ZH:=by kernel_rfl
def vd (w:E)(a:O_)(n j_:Nat):MAt (w.alloc (N (fD (Y a n j_)) 254)) (z (A w)) (Y a n j_) m0:=by
 refine⟨by simp,λj b=>⟨?_,?_⟩⟩;{rw[World.cell?_alloc_new];exact EZ _ j b};{simp}
def ve{P:Program}{f:Array Oper}{rest:List Oper}{o:Oper}{a:Act}{ZP:Exit->Act->E->Prop}(m:o.guard=Z)(t:ZK)(b:Array (Nat × Operand))(j:o.op=.build t b)
  (l:List (Nat × ZB)) (cells:Array ZB) (g:(b.map λ(i,x)=>(i,a.eval x)).toList=l) (hb:P.built t l=T cells) (h:wpList P f ZP rest (a.put o.dst (ZJ cells)) w):wpList P f ZP (o::rest) a w:=by
 refine wpList_build m t b j (by rw[g,hb];rfl) ?_;rw[g,hb];exact h
def Pow.lt (h:Pow w):2<z (A w):=by
 have f:=TZ gPow h 0;rcases OT 2 (z (A w)) with b|b;{exact b};{simp[World.cell?,PO b,Lib.pow10Tab] at f}
def Sim.push{st:Nat}(b:Sim m p st l s)(x:F_)(f:x.size<=2000)(hl:ZU s<50):Sim { m with t:=dk,S:=upd m.S m.size x,size:=m.size+1 } p st l (x::s):=
 ⟨by rw[b.size];exact b.rep.push x,by simp[b.size],by simp;omega,b.hpl,b.hst,b.hlk,λZZ hz=>by
  rcases vG.1 hz with rfl|hz
  ·exact f
  ·exact b.le ZZ hz,b.pl,b.st,b.lk⟩
def jr (b:Bool):(eU b).size<=2000:=by cases b<;>decide
def Six (w:E)(g:Nat):Prop:=g<z (A w)/\∀j,j<6->∃v,ZW w (Q g j Z)=T v/\ZX w (Q g j Z)=ZA
def Six.aa{i:E}(h:Six w g)(b:Below Z9 w i)(f:g<Z9):Six i g:=⟨lj h.1 b.size,λj l=>by
 obtain⟨v,h1,h2⟩:=h.2 j l
 exact⟨v,(b.O (p:=(Q g j Z)) f).k h1,(b.frozen (p:=(Q g j Z)) f).k h2⟩⟩
def Six.ac{l:E}(h:Six w g)(f:zd b w l)(i:g≠b):Six l g:=⟨lj h.1 f.size,λj m=>by
 obtain⟨v,h1,h2⟩:=h.2 j m
 exact⟨v,(f.O g j h.1 i).k h1,(f.frozen g j h.1 i).k h2⟩⟩
def lm (w:E)(v0 v1 v2 v3 v4 v5:ZB)(t:ZK):Six (ZV w (N #[v0,v1,v2,v3,v4,v5] t)) (z (A w)):=⟨by simp,λj hj=>by
 rcases(show j=0\/j=1\/j=2\/j=3\/j=4\/j=5 by omega) with rfl|rfl|rfl|rfl|rfl|rfl
 all_goals exact⟨_,by simp;rfl,by simp⟩⟩
def fX (h:Below Z9 u w)(b:Z9<=g)(v0 v1 v2 v3 v4 v5:ZB):Below Z9 u (B (B (B (B (B (B w (Q g 0 Z) v0) (Q g 1 Z) v1) (Q g 2 Z) v2) (Q g 3 Z) v3) (Q g 4 Z) v4) (Q g 5 Z) v5):=
 (((((h.setCell b v0).setCell b v1).setCell b v2).setCell b v3).setCell b v4).setCell b v5
def Goes (f:Nat->Ins)(y_:Nat)(m:Mst)(H:Halt):Prop:=(m.t=dk/\∃p k l s,Sim m p k l s/\lV f y_ (2001 - k) p k l s=T H)\/fh m H
def badT:Turn:=⟨ZA,9,⟨#[]⟩,ZA,⟨#[]⟩,0⟩
def oB (f:Nat->Ins)(y_:Nat)(y:Nat->aD)(n:Nat):Turn:=if valid f y_=ZA then badT else if 200<n then badT else if bU y n=ZA then badT else cA f y_ y n 2001 0 0 0 []
def pw{f:Nat->Ins}{y_:Nat}{st:Nat}(g:m.t=dk)(b:Sim m p st l s):∃H,Goes f y_ m H/\gP l H/\∀y n,eC f y_ y n H=cA f y_ y n (2001 - st) p st l s:=by obtain⟨H,hH⟩:=sG f y_ (2001 - st) p st l s b.st (by have:=b.st;omega);exact⟨H,.inl ⟨g,p,st,l,s,b,hH⟩,(pq f y_ (λ_=>⟨ZA,0,⟨#[]⟩⟩) 0 _ p st l s H b.st rfl hH).2,λy n=>(pq f y_ y n _ p st l s H b.st rfl hH).1.c⟩
def xn (b:Nat)(q:ZB)(f:Nat->Ins)(y_:Nat)(m:Mst)(a:Bool)(nm:F_)(s:List F_)(p st l:Nat)(r:aD)(w:E)(hM:MAt w b q m)(G:fh m (.inr (a,nm,s,p,st,l)))(hl:1<=l)(ZS:r.H.size<=2000):Calls Pg 175 #[.pointer (T (Q b 0 Z)),ZJ #[ZF r.has,J I r.M,U r.H]] w λe w'=>e=ZI (.tuple #[])/\∃ZT i,MAt w' b q ZT/\Goes f y_ ZT i/\gP l i/\(∀y n,l<=n->y (l - 1)=r->eC f y_ y n (.inr (a,nm,s,p,st,l))=eC f y_ y n i)/\zd b w w':=by
 obtain⟨H,u,hnm,Z8⟩:=G;have x:m.t.ask=a:=by rw[H]
 have ZZ:m.t.e=nm:=by rw[H]
 have hz:m.size<50:=by rw[u.size];exact Z8
 cases a with
 |false =>refine(zH b q m r.has r.M r.H w hM x hz).P ?_;rintro e w'⟨rfl,g,j⟩;obtain⟨i,Z9,C,D⟩:=pw (f:=f) (y_:=y_) (m:={ m with t:=dk,S:=upd m.S m.size (eU r.has),size:=m.size+1 }) rfl (u.push (eU r.has) (jr _) Z8);refine⟨rfl,_,i,g,Z9,C,λy n hn h=>?_,j⟩;rw[D y n];simp only[eC,h];rw[eI (by omega),eT trivial]
 |true =>
  by_cases h1:r.has=ZA;{rw[h1];refine(rH b q m r.M r.H w hM x hz).P ?_;rintro e w'⟨rfl,g,j⟩;refine⟨rfl,_,.inl (4,nm,st),g,.inr ?_,trivial,λy n hn h=>?_,j⟩;{show kK m 4=_;simp only[kK,ZZ,u.hst]};{simp only[eC,h];rw[eI (by omega)];simp[h1]}}
  ·have o:r.has=ZH:=by simpa using h1
   by_cases h2:r.M=0;{rw[o,h2];refine(zI b q m r.H w hM x hz).P ?_;rintro e w'⟨rfl,g,j⟩;obtain⟨i,Z9,C,D⟩:=pw (f:=f) (y_:=y_) (m:={ m with t:=dk,S:=upd m.S m.size r.H,size:=m.size+1 }) rfl (u.push r.H ZS Z8);refine⟨rfl,_,i,g,Z9,C,λy n hn h=>?_,j⟩;rw[D y n];simp only[eC,h];rw[eI (by omega)];simp[o,h2]};{rw[o];refine(vb b q m r.M r.H w hM x (by simpa using h2) hz).P ?_;rintro e w'⟨rfl,g,j⟩;refine⟨rfl,_,.inl (5,nm,st),g,.inr ?_,trivial,λy n hn h=>?_,j⟩;{show kK m 5=_;simp only[kK,ZZ,u.hst]};{simp only[eC,h];rw[eI (by omega)];simp[o,h2]}}
def Bv (g f y_ j_:Nat)(w:E):Calls Pg 154 #[ZJ #[Y (T (Q g f Z)) y_ j_]] w λe w'=>∃b,e=ZI (.func (.func 174) #[] #[.pointer (T (Q b 0 Z))])/\(z (A w))<=b/\MAt w' b (Y (T (Q g f Z)) y_ j_) m0/\Below (z (A w)) w w':=by
 have i:=ae ((BS w).alloc ly (N #[Y (T (Q g f Z)) y_ j_] 37));have k0:ZW (ZV w (N #[Y (T (Q g f Z)) y_ j_] 37)) (Q (z (A w)) 0 Z)=T (Y (T (Q g f Z)) y_ j_):=by simp
 have z0:z (A (ZV w (N #[Y (T (Q g f Z)) y_ j_] 37)))=z (A w)+1:=by simp
 have j:=ae (vd (ZV w (N #[Y (T (Q g f Z)) y_ j_] 37)) (T (Q g f Z)) y_ j_);have h:=ae (by have:=j.i;rw[z0] at this;exact this);have l:=ae (i.alloc i.size (N (fD (Y (T (Q g f Z)) y_ j_)) 254));go_enter func154,ntmps154
 go_wp2_with (first
  |(refine ve rfl 254 #[(1,.tmp 5)] rfl [(1,Y (T (Q g f Z)) y_ j_)] (fD (Y (T (Q g f Z)) y_ j_)) (by simp[Act.eval]) (Bu _ _ _) ?_)
  |(refine wpList_store_row rfl 254 (.tmp 3) (.tmp 6) rfl (z (A w)+1) (fD (Y (T (Q g f Z)) y_ j_)) rfl rfl _ _ (by rw[<-z0];exact heap_alloc_last _ _) (infoM.k (by rw[jq])) (by rw[jq];rfl) (sK _ _ _) ?_;rw[<-z0,World.setRow_alloc_new])
  |fail)
 go_ret;exact⟨_,rfl,by first|(simp;done)|(simp;omega),h,l⟩
def qD (b n o y_ j_:Nat)(f:Nat->Ins)(m:Mst)(H:Halt)(r:aD)(w:E)(hM:MAt w b (Y (T (Q n o Z)) y_ j_) m)(K:Env w b n o y_ f)(hn:m.t.e=⟨#[]⟩)(ZN:y_<=200)(y:dn f y_=ZH)(G:Goes f y_ m H):Calls Pg 174 #[ZJ #[ZF r.has,J I r.M,U r.H],.pointer (T (Q b 0 Z))] w λe w'=>∃x,e=ZI x.t.v/\MAt w' b (Y (T (Q n o Z)) y_ j_) x/\fh x H/\zd b w w':=by
 have ZZ:=hM.lt;have i:=ae ((hM.al (N #[ZF r.has,J I r.M,U r.H] 141)).al (N #[ZF ZA,J I 0,U ⟨#[]⟩,ZF ZA,U ⟨#[]⟩,J I 0] 138));have l:=ae (((zd.refl b w).al (N #[ZF r.has,J I r.M,U r.H] 141)).al (N #[ZF ZA,J I 0,U ⟨#[]⟩,ZF ZA,U ⟨#[]⟩,J I 0] 138));have j:=lm (ZV w (N #[ZF r.has,J I r.M,U r.H] 141)) (ZF ZA) (J I 0) (U ⟨#[]⟩) (ZF ZA) (U ⟨#[]⟩) (J I 0) 138;rw[show(z (A (ZV w (N #[ZF r.has,J I r.M,U r.H] 141))))=z (A w)+1 by simp] at j;have ZT:=ae j;have HE:=ae K;have S:=ae G;obtain⟨⟨c5,ZO⟩,⟨M,P⟩,⟨ZM,z7⟩,⟨c8,W⟩,⟨ZR,z9⟩,ZS,L⟩:=i.turn;rw[hn] at ZR;clear hM K G j c5 ZO M P ZM z7 c8 W z9 ZS L;go_enter func174,ntmps174;go_wp2_with fail;clear ZR;generalize World.alloc (World.alloc w _) _=R at i l ZT ⊢;have hb0:b<z (A R):=i.lt;refine(xY b n o y_ j_ f m H _ i (HE.ac ZZ l) ZN y S).P ?_;rintro e V⟨g,rfl,p,q,u⟩;have s:=ae u;clear u;have Z8:=ae (ZT.ac s (by omega));have hx3:z (A w)+1<z (A V):=Z8.1;have C:=ae p;have D:=ae q;have Z9:=ae (l.k s);clear p q;obtain⟨⟨v0,q0,y0⟩,⟨v1,ZL,y1⟩,⟨v2,ZQ,y2⟩,⟨v3,q3,y3⟩,⟨v4,O,y4⟩,⟨v5,ZP,y5⟩⟩:=bl6 Z8.2;have h:z (A w)+1≠b:=by omega
 have MM:=ae ((((((C.other (z (A w)+1) 0 (ZF g.t.L) h).other (z (A w)+1) 1 (J I g.t.M) h).other (z (A w)+1) 2 (U g.t.H) h).other (z (A w)+1) 3 (ZF g.t.ask) h).other (z (A w)+1) 4 (U g.t.e) h).other (z (A w)+1) 5 (J I g.t.j) h);have X:=ae ((((((Z9.am (z (A w)+1) 0 (ZF g.t.L) (by omega)).am (z (A w)+1) 1 (J I g.t.M) (by omega)).am (z (A w)+1) 2 (U g.t.H) (by omega)).am (z (A w)+1) 3 (ZF g.t.ask) (by omega)).am (z (A w)+1) 4 (U g.t.e) (by omega)).am (z (A w)+1) 5 (J I g.t.j) (by omega));simp only[Turn.v];go_wp2;exact bp (v:=g.t.v) (by simp[results,results174,go_sem,Turn.v,q0,ZL,ZQ,q3,O,ZP]) rfl ⟨g,rfl,MM,D,X⟩
def sL (b q ZZ y_ j_:Nat)(f:Nat->Ins)(m:Mst)(a:Bool)(nm:F_)(s:List F_)(p st l:Nat)(r:aD)(w:E)(hM:MAt w b (Y (T (Q q ZZ Z)) y_ j_) m)(ZO:Env w b q ZZ y_ f)(Z8:fh m (.inr (a,nm,s,p,st,l)))(hl:1<=l)(hr:r.H.size<=2000)(hc:y_<=200)(O:dn f y_=ZH):Calls Pg 174 #[ZJ #[ZF r.has,J I r.M,U r.H],.pointer (T (Q b 0 Z))] w λe w'=>∃ZQ o,e=ZI ZQ.t.v/\MAt w' b (Y (T (Q q ZZ Z)) y_ j_) ZQ/\fh ZQ o/\gP l o/\(∀y n,l<=n->y (l - 1)=r->eC f y_ y n (.inr (a,nm,s,p,st,l))=eC f y_ y n o)/\zd b w w':=by
 have P:=hM.lt;have j:=ae ((hM.al (N #[ZF r.has,J I r.M,U r.H] 141)).al (N #[ZF ZA,J I 0,U ⟨#[]⟩,ZF ZA,U ⟨#[]⟩,J I 0] 138));have u:=ae (((zd.refl b w).al (N #[ZF r.has,J I r.M,U r.H] 141)).al (N #[ZF ZA,J I 0,U ⟨#[]⟩,ZF ZA,U ⟨#[]⟩,J I 0] 138));have x:=lm (ZV w (N #[ZF r.has,J I r.M,U r.H] 141)) (ZF ZA) (J I 0) (U ⟨#[]⟩) (ZF ZA) (U ⟨#[]⟩) (J I 0) 138;rw[show(z (A (ZV w (N #[ZF r.has,J I r.M,U r.H] 141))))=z (A w)+1 by simp] at x;have ZM:=ae x;have HE:=ae ZO;have HS:=ae Z8;have ZT:m.t.e=nm:=by have:=Z8.1;rw[this]
 have i:nm.toList.isEmpty=ZA:=by
  have hn:=Z8.2.2.1;have h0:¬ nm.size=0:=by simp only[aA,j6,nD] at hn;omega
  have:=mX h0;cases h:nm.toList with
  |nil=>exact absurd h this
  |cons _ _=>rfl
 obtain⟨⟨c5,z5⟩,⟨c6,z6⟩,⟨c7,z7⟩,⟨c8,z8⟩,⟨c9,z9⟩,bt,X⟩:=j.turn;rw[ZT] at c9;clear hM ZO Z8 x ZT c5 z5 c6 z6 c7 z7 c8 z8 z9 bt X;go_enter func174,ntmps174;go_wp2_with fail;clear c9 i;generalize World.alloc (World.alloc w _) _=W0 at j u ZM ⊢;have hb0:b<z (A W0):=j.lt;refine(xn b (Y (T (Q q ZZ Z)) y_ j_) f y_ m a nm s p st l r _ j HS hl hr).P ?_;rintro e w1⟨rfl,m1,o,ZR,K,G,D,C⟩;have aq:=ae ZR;have R:=ae K;have W:=ae G;have S:=ae D;have M:=ae C;clear ZR K G D C;go_wp2_with fail;refine(xY b q ZZ y_ j_ f m1 o _ aq (HE.ac P (u.k M)) hc O R).P ?_;rintro e w3⟨g,rfl,H,Z9,L⟩;have ZS:=ae (M.k L);clear L;have ZN:=ae (ZM.ac ZS (by omega));have hx3:z (A w)+1<z (A w3):=ZN.1;have V:=ae H;have ZL:=ae Z9;have ZP:=ae (u.k ZS);clear H Z9;obtain⟨⟨v0,q0,y0⟩,⟨v1,q1,y1⟩,⟨v2,q2,y2⟩,⟨v3,q3,y3⟩,⟨v4,q4,y4⟩,⟨v5,q5,y5⟩⟩:=bl6 ZN.2;have i:z (A w)+1≠b:=by omega
 have MM:=ae ((((((V.other (z (A w)+1) 0 (ZF g.t.L) i).other (z (A w)+1) 1 (J I g.t.M) i).other (z (A w)+1) 2 (U g.t.H) i).other (z (A w)+1) 3 (ZF g.t.ask) i).other (z (A w)+1) 4 (U g.t.e) i).other (z (A w)+1) 5 (J I g.t.j) i);have OO:=ae ((((((ZP.am (z (A w)+1) 0 (ZF g.t.L) (by omega)).am (z (A w)+1) 1 (J I g.t.M) (by omega)).am (z (A w)+1) 2 (U g.t.H) (by omega)).am (z (A w)+1) 3 (ZF g.t.ask) (by omega)).am (z (A w)+1) 4 (U g.t.e) (by omega)).am (z (A w)+1) 5 (J I g.t.j) (by omega));simp only[Turn.v];go_wp2;exact bp (v:=g.t.v) (by simp[results,results174,go_sem,Turn.v,q0,q1,q2,q3,q4,q5]) rfl ⟨g,o,rfl,MM,ZL,W,S,OO⟩
def oP{f:Nat->Ins}{y_ i:Nat}(b:fh m H)(hL:gP i H):eC f y_ y i H=m.t:=by
 rcases H with⟨c,x,k⟩|⟨a,nm,s,p,k,l⟩
 {exact(show m.t=⟨ZH,c,x,ZA,⟨#[]⟩,k⟩ from b).c};{have g:l=i+1:=hL;subst g;simp only[eC,QS];rw[eT ly ];exact b.1.c}
def oQ (f:fh m H)(b:m.t.L=ZA):∃a nm s p k l,H=.inr (a,nm,s,p,k,l):=by
 rcases H with⟨c,x,k⟩|⟨a,nm,s,p,k,l⟩
 {have:m.t=⟨ZH,c,x,ZA,⟨#[]⟩,k⟩:=f;rw[this] at b;simp at b};{exact⟨a,nm,s,p,k,l,rfl⟩}
def TurnBox (w:E)(g:Nat)(t:Turn):Prop:=g<z (A w)/\(ZW w (Q g 0 Z)=T (ZF t.L)/\ZW w (Q g 1 Z)=T (J I t.M)/\ZW w (Q g 2 Z)=T (U t.H)/\ZW w (Q g 3 Z)=T (ZF t.ask)/\ZW w (Q g 4 Z)=T (U t.e)/\ZW w (Q g 5 Z)=T (J I t.j))/\∀j,ZX w (Q g j Z)=ZA
def TurnBox.aa (h:TurnBox w g t)(hb:Below Z9 w w')(b:g<Z9):TurnBox w' g t:=by obtain⟨h1,⟨c0,c1,c2,c3,c4,c5⟩,hz⟩:=h;exact⟨lj h1 hb.size,⟨(hb.O (p:=(Q g _ Z)) b).k c0,(hb.O (p:=(Q g _ Z)) b).k c1,(hb.O (p:=(Q g _ Z)) b).k c2,(hb.O (p:=(Q g _ Z)) b).k c3,(hb.O (p:=(Q g _ Z)) b).k c4,(hb.O (p:=(Q g _ Z)) b).k c5⟩,λj=>(hb.frozen (p:=(Q g j Z)) b).k (hz j)⟩
def TurnBox.ac (h:TurnBox w g t)(f:zd b w w')(i:g≠b):TurnBox w' g t:=by obtain⟨h1,⟨c0,c1,c2,c3,c4,c5⟩,hz⟩:=h;exact⟨lj h1 f.size,⟨(f.O g _ h1 i).k c0,(f.O g _ h1 i).k c1,(f.O g _ h1 i).k c2,(f.O g _ h1 i).k c3,(f.O g _ h1 i).k c4,(f.O g _ h1 i).k c5⟩,λj=>(f.frozen g j h1 i).k (hz j)⟩
def E7 (w:E)(t:Turn)(ty:ZK):TurnBox (ZV w (N #[ZF t.L,J I t.M,U t.H,ZF t.ask,U t.e,J I t.j] ty)) (z (A w)) t:=
 ⟨by simp,⟨by simp,by simp,by simp,by simp,by simp,by simp⟩,λj=>by simp⟩
def fY (w:E)(g:Nat)(t:Turn):E:=B (B (B (B (B (B w (Q g 0 Z) (ZF t.L)) (Q g 1 Z) (J I t.M)) (Q g 2 Z) (U t.H)) (Q g 3 Z) (ZF t.ask)) (Q g 4 Z) (U t.e)) (Q g 5 Z) (J I t.j)
def Hk{u:Turn}(t:Turn)(h:TurnBox w g u):TurnBox (fY w g t) g t:=by obtain⟨h1,⟨c0,c1,c2,c3,c4,c5⟩,hz⟩:=h;refine⟨by simpa[fY] using h1,⟨?_,?_,?_,?_,?_,?_⟩,λj=>by simpa[fY] using hz j⟩;all_goals simp[fY,go_sem,c0,c1,c2,c3,c4,c5]
def vf (t:Turn):zd g w (fY w g t):=ce (ce (ce (ce (ce (ce (zd.refl g w) 0 _) 1 _) 2 _) 3 _) 4 _) 5 _
def MAt.boxed{i:ZB}(h:MAt w b i m)(f:g≠b)(t:Turn):MAt (fY w g t) b i m:=
 (((((h.other g 0 (ZF t.L) f).other g 1 (J I t.M) f).other g 2 (U t.H) f).other g 3 (ZF t.ask) f).other g 4 (U t.e) f).other g 5 (J I t.j) f
abbrev ec (at_:Int)(sv:ZB)(st lk:Int)(f:Bool)(c:Int)(x:F_)(ask:Bool)(nm:F_)(b:Bool):ZB:=
 ZJ #[J I at_,sv,J I st,J I lk,ZF f,J I c,U x,ZF ask,U nm,ZF b]
def dS (h:Below Z9 u w)(b:Z9<=g)(v0 v1 v2 v3 v4 v5 v6 v7 v8 v9:ZB):Below Z9 u (B (B (B (B (B (B (B (B (B (B w (Q g 0 Z) v0) (Q g 1 Z) v1) (Q g 2 Z) v2) (Q g 3 Z) v3) (Q g 4 Z) v4) (Q g 5 Z) v5) (Q g 6 Z) v6) (Q g 7 Z) v7) (Q g 8 Z) v8) (Q g 9 Z) v9):=
 (((((((((h.setCell b v0).setCell b v1).setCell b v2).setCell b v3).setCell b v4).setCell b v5).setCell b v6).setCell b v7).setCell b v8).setCell b v9
def fN (at_:Int)(a:O_)(n j_:Nat)(st lk:Int)(g:Bool)(c0:Int)(f:F_)(ask:Bool)(nm:F_)(b:Bool)(c:Int)(x:F_)(w:E):Calls Pg 158 #[ec at_ (Y a n j_) st lk g c0 f ask nm b,J I c,U x] w λe w'=>e=ZI (ec at_ (Y a n j_) st lk ZH c x ask nm b)/\Below (z (A w)) w w':=by go_enter func158,ntmps158;go_wp2;refine bp (v:=ec at_ (Y a n j_) st lk ZH c x ask nm b) (by simp[results,results158,go_sem]) rfl ⟨rfl,(br.alloc ly _).alloc (by simp) _⟩
def xo (op:Nat)(w:E)(h1:1<=op)(h15:op<=15):Calls Pg 159 #[J I op] w λe w'=>e=ZI (.tuple #[J I (aX op),J I (bN op)])/\w'=w:=by
 rcases(show op=1\/op=2\/op=3\/op=4\/op=5\/op=6\/op=7\/op=8\/op=9\/op=10\/op=11\/op=12\/op=13\/op=14\/op=15 by omega) with rfl|rfl|rfl|rfl|rfl|rfl|rfl|rfl|rfl|rfl|rfl|rfl|rfl|rfl|rfl;all_goals
  go_enter func159,ntmps159;go_wp2;refine bp (v:=.tuple #[J I (aX _),J I (bN _)]) (by simp[results,results159,go_sem,aX,bN]) rfl ⟨rfl,rfl⟩
def cB (op n:Nat)(t a b:F_):List F_:=
 match op with
 |1=>[t]
 |2=>[b++a]
 |3=>[if n<a.size then a.extract 0 n else a]
 |4=>[if n<a.size then a.extract n a.size else ⟨#[]⟩]
 |5=>[fV a n]
 |6=>[eU (a.toList == b.toList)]
 |7=>[a,a]
 |8=>[a,b]
 |_=>[]
def nI (w:E)(x:F_)(g:Nat)(b:g=z (A w)):RowStr (ZV w (N #[U x] 9)) g 0 1 (λi=>[x].getD i ⟨#[]⟩):=by
 subst b
 exact⟨by simp,λi hi=>by
  obtain rfl:i=0:=by omega
  simp⟩
def IU (w:E)(x y:F_)(g:Nat)(b:g=z (A w)):RowStr (ZV w (N #[U x,U y] 9)) g 0 2 (λi=>[x,y].getD i ⟨#[]⟩):=by subst b;exact⟨by simp,λi hi=>by rcases(show i=0\/i=1 by omega) with rfl|rfl<;>simp⟩
def xp (op n:Nat)(t a b:F_)(w:E)(h1:1<=op)(h8:op<=8)(o:a.size<=2000)(hb:b.size<=2000)(hn:n<=2000):Calls Pg 161 #[ZJ #[J I op,U t,J I n],U a,U b] w λe w'=>∃g,e=ZI (Y (T (Q g 0 Z)) (cB op n t a b).length (cB op n t a b).length)/\RowStr w' g 0 (cB op n t a b).length (λi=>(cB op n t a b).getD i ⟨#[]⟩)/\(z (A w))<=g/\Below (z (A w)) w w':=by
 have f:=ae ((BS w).alloc ly (N #[J I op,U t,J I n] 124));rcases(show op=1\/op=2\/op=3\/op=4\/op=5\/op=6\/op=7\/op=8 by omega) with rfl|rfl|rfl|rfl|rfl|rfl|rfl|rfl;{go_enter RJ,QV;go_wp2;go_ret;exact⟨_,rfl,nI _ t _ (by simp),by simp,f.alloc (by simp) _⟩};{go_enter RJ,QV;go_wp2;go_ret;exact⟨_,rfl,nI _ (b++a) _ (by simp),by simp,f.alloc (by simp) _⟩}
 ·by_cases h:(n:Int)<a.size
  ·have e:cB 3 n t a b=[a.extract 0 n]:=by simp[cB];omega
   rw[e];clear e;go_enter RJ,QV;go_wp2;go_ret;exact⟨_,rfl,nI _ _ _ (by simp),by simp,f.alloc (by simp) _⟩
  ·have e:cB 3 n t a b=[a]:=by simp[cB];omega
   rw[e];clear e;go_enter RJ,QV;go_wp2;go_ret;exact⟨_,rfl,nI _ _ _ (by simp),by simp,f.alloc (by simp) _⟩
 ·by_cases h:(n:Int)<a.size
  ·have e:cB 4 n t a b=[a.extract n a.size]:=by simp[cB];omega
   rw[e];clear e;go_enter RJ,QV;go_wp2;go_ret;exact⟨_,rfl,nI _ _ _ (by simp),by simp,f.alloc (by simp) _⟩
  ·have e:cB 4 n t a b=[⟨#[]⟩]:=by simp[cB];omega
   rw[e];clear e;go_enter RJ,QV;go_wp2;go_ret;exact⟨_,rfl,nI _ _ _ (by simp),by simp,f.alloc (by simp) _⟩
 {go_enter RJ,QV;go_wp2_with fail;refine(xh a n _ o hn).P ?_;rintro e m⟨rfl,j⟩;have l:=ae (f.k (j.P (by simp)));clear j;go_wp2;go_ret;exact⟨_,rfl,nI _ (fV a n) _ rfl,l.size,l.alloc l.size _⟩};{go_enter RJ,QV;go_wp2_with fail;refine(qw _ _).P ?_;rintro e m⟨rfl,rfl⟩;go_wp2;go_ret;exact⟨_,rfl,nI _ (eU (a.toList == b.toList)) _ (by simp),by simp,f.alloc (by simp) _⟩};{go_enter RJ,QV;go_wp2;go_ret;exact⟨_,rfl,IU _ a a _ (by simp),by simp,f.alloc (by simp) _⟩};{go_enter RJ,QV;go_wp2;go_ret;exact⟨_,rfl,IU _ a b _ (by simp),by simp,f.alloc (by simp) _⟩}
def Ten (w:E)(g:Nat)(v0 v1 v2 v3 v4 v5 v6 v7 v8 v9:ZB):Prop:=g<z (A w)/\(ZW w (Q g 0 Z)=T v0/\ZX w (Q g 0 Z)=ZA)/\(ZW w (Q g 1 Z)=T v1/\ZX w (Q g 1 Z)=ZA)/\(ZW w (Q g 2 Z)=T v2/\ZX w (Q g 2 Z)=ZA)/\(ZW w (Q g 3 Z)=T v3/\ZX w (Q g 3 Z)=ZA)/\(ZW w (Q g 4 Z)=T v4/\ZX w (Q g 4 Z)=ZA)/\(ZW w (Q g 5 Z)=T v5/\ZX w (Q g 5 Z)=ZA)/\(ZW w (Q g 6 Z)=T v6/\ZX w (Q g 6 Z)=ZA)/\(ZW w (Q g 7 Z)=T v7/\ZX w (Q g 7 Z)=ZA)/\(ZW w (Q g 8 Z)=T v8/\ZX w (Q g 8 Z)=ZA)/\(ZW w (Q g 9 Z)=T v9/\ZX w (Q g 9 Z)=ZA)
section
variable {w w':E}{g:Nat}{v0 v1 v2 v3 v4 v5 v6 v7 v8 v9:ZB}
def Ten.of_block (h:Ten w g v0 v1 v2 v3 v4 v5 v6 v7 v8 v9)(hz:z (A w)<=z (A w'))(hb:w'.heap[g]?=w.heap[g]?):Ten w' g v0 v1 v2 v3 v4 v5 v6 v7 v8 v9:=by have f:∀o,ZW w' (Q g o Z)=ZW w (Q g o Z):=λo=>cq (a:=(Q g o Z)) hb;have b:∀o,ZX w' (Q g o Z)=ZX w (Q g o Z):=λo=>NG (a:=(Q g o Z)) hb;unfold Ten at h ⊢;simp only[f,b];exact⟨lj h.1 hz,h.2⟩
def Ten.aa (h:Ten w g v0 v1 v2 v3 v4 v5 v6 v7 v8 v9)(hb:Below Z9 w w')(b:g<Z9):Ten w' g v0 v1 v2 v3 v4 v5 v6 v7 v8 v9:=h.of_block hb.size (hb.p g b)
def Ten.grown{row:Option Nat}(h:Ten w g v0 v1 v2 v3 v4 v5 v6 v7 v8 v9)(hb:w.grownBy w' row)(b:T g≠row):Ten w' g v0 v1 v2 v3 v4 v5 v6 v7 v8 v9:=h.of_block hb.size (hb.p g h.1 b)
def Ten.al (h:Ten w g v0 v1 v2 v3 v4 v5 v6 v7 v8 v9)(o:Obj):Ten (w.alloc o) g v0 v1 v2 v3 v4 v5 v6 v7 v8 v9:=h.aa ((BS w).alloc ly o) h.1
def Ten.other (h:Ten w g v0 v1 v2 v3 v4 v5 v6 v7 v8 v9)(p:Addr)(u:ZB)(b:p.block≠g):Ten (w.setCell p u) g v0 v1 v2 v3 v4 v5 v6 v7 v8 v9:=h.of_block (by simp) (qh w p u g (λe=>b e.c))
end
def lp (w:E)(v0 v1 v2 v3 v4 v5 v6 v7 v8 v9:ZB)(t:ZK)(g:Nat)(b:g=z (A w)):Ten (ZV w (N #[v0,v1,v2,v3,v4,v5,v6,v7,v8,v9] t)) g v0 v1 v2 v3 v4 v5 v6 v7 v8 v9:=by subst b;simp[Ten]
section
variable {w:E}{g:Nat}{v0 v1 v2 v3 v4 v5 v6 v7 v8 v9:ZB}
def Ten.sets (h:Ten w g v0 v1 v2 v3 v4 v5 v6 v7 v8 v9)(u:ZB):Ten (B w (Q g 0 Z) u) g u v1 v2 v3 v4 v5 v6 v7 v8 v9/\Ten (B w (Q g 1 Z) u) g v0 u v2 v3 v4 v5 v6 v7 v8 v9/\Ten (B w (Q g 2 Z) u) g v0 v1 u v3 v4 v5 v6 v7 v8 v9/\Ten (B w (Q g 3 Z) u) g v0 v1 v2 u v4 v5 v6 v7 v8 v9/\Ten (B w (Q g 4 Z) u) g v0 v1 v2 v3 u v5 v6 v7 v8 v9/\Ten (B w (Q g 5 Z) u) g v0 v1 v2 v3 v4 u v6 v7 v8 v9/\Ten (B w (Q g 6 Z) u) g v0 v1 v2 v3 v4 v5 u v7 v8 v9/\Ten (B w (Q g 7 Z) u) g v0 v1 v2 v3 v4 v5 v6 u v8 v9/\Ten (B w (Q g 8 Z) u) g v0 v1 v2 v3 v4 v5 v6 v7 u v9/\Ten (B w (Q g 9 Z) u) g v0 v1 v2 v3 v4 v5 v6 v7 v8 u:=by have o:∀i j:Nat,i≠j->ZW (B w (Q g i Z) u) (Q g j Z)=ZW w (Q g j Z):=λi j hij=>sq _ _ _ _ (by simp);have s:∀i v,ZW w (Q g i Z)=T v->ZW (B w (Q g i Z) u) (Q g i Z)=T u:=λi v e=>BO _ _ _ (by rw[e];rfl);obtain⟨y,⟨b,H⟩,⟨l,Z8⟩,⟨r,ZZ⟩,⟨t,ZT⟩,⟨m,Z9⟩,⟨q,C⟩,⟨p,D⟩,⟨n,ZS⟩,⟨f,ZR⟩,x,G⟩:=h;simp[Ten,o,y,s _ _ b,s _ _ l,s _ _ r,s _ _ t,s _ _ m,s _ _ q,s _ _ p,s _ _ n,s _ _ f,s _ _ x,b,l,r,t,m,q,p,n,f,x,H,Z8,ZZ,ZT,Z9,C,D,ZS,ZR,G]
def Ten.set0 (h:Ten w g v0 v1 v2 v3 v4 v5 v6 v7 v8 v9)(u:ZB):Ten (B w (Q g 0 Z) u) g u v1 v2 v3 v4 v5 v6 v7 v8 v9:=(h.sets u).1
def Ten.set1 (h:Ten w g v0 v1 v2 v3 v4 v5 v6 v7 v8 v9)(u:ZB):Ten (B w (Q g 1 Z) u) g v0 u v2 v3 v4 v5 v6 v7 v8 v9:=(h.sets u).2.1
def Ten.set2 (h:Ten w g v0 v1 v2 v3 v4 v5 v6 v7 v8 v9)(u:ZB):Ten (B w (Q g 2 Z) u) g v0 v1 u v3 v4 v5 v6 v7 v8 v9:=(h.sets u).2.2.1
def Ten.set3 (h:Ten w g v0 v1 v2 v3 v4 v5 v6 v7 v8 v9)(u:ZB):Ten (B w (Q g 3 Z) u) g v0 v1 v2 u v4 v5 v6 v7 v8 v9:=(h.sets u).2.2.2.1
def Ten.set4 (h:Ten w g v0 v1 v2 v3 v4 v5 v6 v7 v8 v9)(u:ZB):Ten (B w (Q g 4 Z) u) g v0 v1 v2 v3 u v5 v6 v7 v8 v9:=(h.sets u).2.2.2.2.1
def Ten.set5 (h:Ten w g v0 v1 v2 v3 v4 v5 v6 v7 v8 v9)(u:ZB):Ten (B w (Q g 5 Z) u) g v0 v1 v2 v3 v4 u v6 v7 v8 v9:=(h.sets u).2.2.2.2.2.1
def Ten.set6 (h:Ten w g v0 v1 v2 v3 v4 v5 v6 v7 v8 v9)(u:ZB):Ten (B w (Q g 6 Z) u) g v0 v1 v2 v3 v4 v5 u v7 v8 v9:=(h.sets u).2.2.2.2.2.2.1
def Ten.set7 (h:Ten w g v0 v1 v2 v3 v4 v5 v6 v7 v8 v9)(u:ZB):Ten (B w (Q g 7 Z) u) g v0 v1 v2 v3 v4 v5 v6 u v8 v9:=(h.sets u).2.2.2.2.2.2.2.1
def Ten.set8 (h:Ten w g v0 v1 v2 v3 v4 v5 v6 v7 v8 v9)(u:ZB):Ten (B w (Q g 8 Z) u) g v0 v1 v2 v3 v4 v5 v6 v7 u v9:=(h.sets u).2.2.2.2.2.2.2.2.1
def Ten.set9 (h:Ten w g v0 v1 v2 v3 v4 v5 v6 v7 v8 v9)(u:ZB):Ten (B w (Q g 9 Z) u) g v0 v1 v2 v3 v4 v5 v6 v7 v8 u:=(h.sets u).2.2.2.2.2.2.2.2.2
end
def IW (w:E)(b:Array ZB)(ty:ZK)(R ZM:Obj)(j:Nat)(v:ZB)(f:b[j]?=T v):(((w.alloc (N b ty)).alloc R).alloc ZM).cell? (Q (z (A w)) j Z)=T v:=by rw[(((a8 (w.alloc (N b ty)).heap.size _).alloc ly R).alloc (by simp) ZM).O (p:=(Q (z (A w)) j Z)) (by simp)];simp[f]
abbrev SO:=(Nat × Nat × Nat × List F_) ⊕ (Int × F_ × Nat) ⊕ (Bool × F_ × Nat)
abbrev strs (s:List F_):List ZB:=s.reverse.map Value.string
def SoIs (w:E)(base:Nat)(v:ZB):SO->Prop
 |.inl (p,st,l,s)=>∃a j_,v=ec p (Y a (ZU s) j_) st l ZA 0 ⟨#[]⟩ ZA ⟨#[]⟩ ZA/\ZY w base 9 1 (Y a (ZU s) j_) (ZU s) (strs s)
 |.inr (.inl (c,x,st))=>∃(at_:Int) (a:O_) (n j_:Nat) (lk:Int),v=ec at_ (Y a n j_) st lk ZH c x ZA ⟨#[]⟩ ZA
 |.inr (.inr (ask,nm,st))=>∃(at_:Int) (a:O_) (n j_:Nat) (lk:Int),v=ec at_ (Y a n j_) st lk ZA 0 ⟨#[]⟩ ask nm ZH
def SoIs.kept{v:ZB}{r:SO}(h:SoIs w base v r)(hb:Below (z (A w)) w w')(f:b<=base):SoIs w' b v r:=by
 rcases r with⟨p,st,l,s⟩|⟨c,x,st⟩|⟨ask,nm,st⟩
 {obtain⟨a,j_,e,g⟩:=h;exact⟨a,j_,e,aE (J_ g hb ly) f⟩};{exact h};{exact h}
def Bw{k:Nat}{s0:F_}{i:Int}{b:List ZB}(h:ZY w base e 1 (Y (T (Q g 0 Z)) n j_) n b)(f:b[0]?=T (U s0))(j:ZW w (Q k 0 Z)=T (J I i)):k≠g:=by rintro rfl;have:=h.cells (g:=k) rfl 0 _ f;simp[Addr.add] at this;rw[j] at this;simp at this
def gQ (x:F_)(s:List F_):strs (x::s)=strs s++[U x]:=by simp[strs]
def yc:∃s0,(strs s++[Value.string x])[0]?=T (U s0):=by
 rw[<-gQ];simp only[strs,L8,RH];have h:0<(x::s).reverse.length:=by simp
 exact⟨_,_,gq h,rfl⟩
def dT{b:List ZB}(h:ZY w base e 1 (Y (T (Q g 0 Z)) n j_) n b){k:Nat}(f:k≠g)(u:ZB)(j:Nat):(B w (Q k j Z) u).ownsRow base e 1 (Y (T (Q g 0 Z)) n j_) n b:=
 WG h (by simp[Value.ownBlock];exact λe=>f e.c) u
def E9{f:List ZB}(h:ZY w base e 1 (Y (T (Q g 0 Z)) n j_) n f){k:Nat}(b:k≠g)(v0 v1 v2 v3 v4 v5 v6 v7 v8 v9:ZB):World.ownsRow (B (B (B (B (B (B (B (B (B (B w (Q k 0 Z) v0) (Q k 1 Z) v1) (Q k 2 Z) v2) (Q k 3 Z) v3) (Q k 4 Z) v4) (Q k 5 Z) v5) (Q k 6 Z) v6) (Q k 7 Z) v7) (Q k 8 Z) v8) (Q k 9 Z) v9) base e 1 (Y (T (Q g 0 Z)) n j_) n f:=
 dT (dT (dT (dT (dT (dT (dT (dT (dT (dT h b v0 0) b v1 1) b v2 2) b v3 3) b v4 4) b v5 5) b v6 6) b v7 7) b v8 8) b v9 9
def kj (y:Nat->aD)(n:Nat)(a:Bool)(nm:F_)(s:List F_)(p st l:Nat):SO:=
 if n<=l then .inr (.inr (a,nm,st)) else if a=ZA then .inl (p,st,(l+1),(eU (y l).has::s)) else if (y l).has=ZA then .inr (.inl (4,nm,st))
 else if (y l).M=0 then .inl (p,st,(l+1),((y l).H::s)) else .inr (.inl (5,nm,st))
def jR (y:Nat->aD)(n op:Nat)(pl nm:F_)(s:List F_)(p st l:Nat):SO:=
 if aA nm=ZA then .inr (.inl (2,pl,st)) else if l=200 then .inr (.inl (3,⟨#[]⟩,st)) else kj y n ((op:Int) == 12) nm s p st l
def Bz{pl nm:F_}{st:Nat}{b:SO}(h:b=jR y n op pl nm s p st l)(j:op=12\/op=13):(aA nm=ZA/\b=.inr (.inl (2,pl,st)))\/(aA nm=ZH/\((l:Int) == 200)=ZH/\b=.inr (.inl (3,⟨#[]⟩,st))) \/
  (aA nm=ZH/\((l:Int) == 200)=ZA/\((n<=l/\b=.inr (.inr (((op:Int) == 12),nm,st)))\/(l<n/\((op=13/\b=.inl (p,st,(l+1),(eU (y l).has::s)))\/(op=12/\(((y l).has=ZA/\b=.inr (.inl (4,nm,st)))\/((y l).has=ZH/\(((y l).M=0/\b=.inl (p,st,(l+1),((y l).H::s)))\/(((y l).M == 0)=ZA/\b=.inr (.inl (5,nm,st))))))))))):=by
 unfold jR kj at h;by_cases h1:aA nm=ZA;{rw[eT h1] at h;exact .inl ⟨h1,h⟩};rw[eI h1] at h;have h1:aA nm=ZH:=by simpa using h1
 by_cases h2:l=200;{rw[eT h2] at h;exact .inr (.inl ⟨h1,by simp;omega,h⟩)};rw[eI h2] at h;refine .inr (.inr ⟨h1,by simp;omega,?_⟩);by_cases i:n<=l;{rw[eT i] at h;exact .inl ⟨i,h⟩};rw[eI i] at h;refine .inr ⟨by omega,?_⟩;rcases j with rfl|rfl;{rw[eI (by simp)] at h;by_cases f:(y l).has=ZA;{rw[eT f] at h;exact .inr ⟨rfl,.inl ⟨f,h⟩⟩};rw[eI f] at h;by_cases g:(y l).M=0;{rw[eT g] at h;exact .inr ⟨rfl,.inr ⟨by simpa using f,.inl ⟨g,h⟩⟩⟩};rw[eI g] at h;exact .inr ⟨rfl,.inr ⟨by simpa using f,.inr ⟨by simpa using g,h⟩⟩⟩};{rw[eT (by simp)] at h;exact .inl ⟨rfl,h⟩}
structure LkS (w:E)(op:Int)(base:Nat)(a:O_)(j_:Nat)(s:List F_)(p st lk:Int)(V:E):Prop where
 run:Ten V (z (A w)+1) (J I p) (Y a (ZU s) j_) (J I st) (J I lk) (ZF ZA) (J I 0) (U ⟨#[]⟩) (ZF ZA) (U ⟨#[]⟩) (ZF ZA)
 zer:Ten V (z (A w)+1+1) (J I 0) (Y Z 0 0) (J I 0) (J I 0) (ZF ZA) (J I 0) (U ⟨#[]⟩) (ZF ZA) (U ⟨#[]⟩) (ZF ZA)
 bl:Below (z (A w)) w V
 y:ZY V base 9 1 (Y a (ZU s) j_) (ZU s) (strs s)
 ne:∀k,z (A w)<=k->Value.ownBlock (Y a (ZU s) j_)≠T k
 arg:ZW V (Q (z (A w)) 0 Z)=T (J I op)
section
variable {w V ZN:E}{base j_:Nat}{a:O_}{s:List F_}{op p st lk:Int}
def LkS.aa (h:LkS w op base a j_ s p st lk V)(b:Below (z (A V)) V ZN):LkS w op base a j_ s p st lk ZN:=
 ⟨h.run.aa b h.run.1,h.zer.aa b h.zer.1,h.bl.k (b.P h.bl.size),J_ h.y b ly,h.ne,(b.O (p:=(Q (z (A w)) 0 Z)) (by have:=h.run.1;show (z (A w))<_;omega)).k h.arg⟩
def LkS.next (h:LkS w op base a j_ s p st lk V)(q:Int):LkS w op base a j_ s p st q (B V (Q (z (A w)+1) 3 Z) (J I q)):=
 ⟨h.run.set3 _,h.zer.other _ _ (by simp),h.bl.setCell (p:=(Q (z (A w)+1) 3 Z)) (by simp) _,WG h.y (a:=(Q (z (A w)+1) 3 Z)) (h.ne _ (by simp)) _,h.ne,(sq _ _ _ _ (by simp)).k h.arg⟩
def LkS.al (h:LkS w op base a j_ s p st lk V)(o:Obj):LkS w op base a j_ s p st lk (V.alloc o):=h.aa (br.alloc ly o)
def LkS.drew (h:LkS w op base a j_ s p st lk V):LkS w op base a j_ s p st lk V.drew:=h.aa br.drew
def LkS.grown (h:LkS w op base a j_ s p st lk V)(b:V.grownBy ZN (Value.slice a (ZU s) j_).ownBlock)(hb:base<=z (A w)):Ten ZN (z (A w)+1) (J I p) (Y a (ZU s) j_) (J I st) (J I lk) (ZF ZA) (J I 0) (U ⟨#[]⟩) (ZF ZA) (U ⟨#[]⟩) (ZF ZA)/\Ten ZN (z (A w)+1+1) (J I 0) (Y Z 0 0) (J I 0) (J I 0) (ZF ZA) (J I 0) (U ⟨#[]⟩) (ZF ZA) (U ⟨#[]⟩) (ZF ZA)/\Below base w ZN:=
 ⟨h.run.grown b λe=>h.ne _ (by omega) e.c,h.zer.grown b λe=>h.ne _ (by omega) e.c,bg (h.bl.P hb) b (nX hb h.bl.size) λk e=>(h.y.lt k e).1⟩
end
def zJ (op:Nat)(t:F_)(k:Int)(p st l:Nat)(a:O_)(j_:Nat)(s:List F_)(nm pl:F_)(b2 o2 n aq base:Nat)(y:Nat->aD)(w:E)
  (hY:RowReply w b2 o2 n y) (O:ZY w base 9 1 (Y a (ZU s) j_) (ZU s) (strs s)) (hb:base<=z (A w)) (ex:op=12\/op=13) (hl:l<=200) (hs:ZU s<=50) :
  Calls Pg 160 #[ZJ #[J I op,U t,J I k],ec p (Y a (ZU s) j_) st l ZA 0 ⟨#[]⟩ ZA ⟨#[]⟩ ZA,U nm,U pl,Y (T (Q b2 o2 Z)) n aq] w λe w'=>∃v,e=ZI v/\SoIs w' base v (jR y n op pl nm s p st l)/\Below base w w':=by
 obtain⟨so,Z9⟩:∃so,so=jR y n op pl nm s p st l:=⟨_,rfl⟩
 rw[<-Z9];have HQ:=ae (Bz Z9 ex);have HY:=ae hY;have A0:=ae ((((BS w).alloc ly (N #[J I op,U t,J I k] 124)).alloc (by simp) (N #[J I p,Y a (ZU s) j_,J I st,J I l,ZF ZA,J I 0,U ⟨#[]⟩,ZF ZA,U ⟨#[]⟩,ZF ZA] 192)).alloc (by simp<;>omega) (N #[J I 0,Y Z 0 0,J I 0,J I 0,ZF ZA,J I 0,U ⟨#[]⟩,ZF ZA,U ⟨#[]⟩,ZF ZA] 192));have C:=ae (LkS.mk (p:=p) (st:=st) (lk:=l) ((lp (ZV w (N #[J I op,U t,J I k] 124)) _ _ _ _ _ _ _ _ _ _ 192 (z (A w)+1) (by simp)).al _) (lp _ _ _ _ _ _ _ _ _ _ _ 192 (z (A w)+1+1) (by simp)) A0.i (J_ O A0 ly) (λk hk e=>by have:=(O.lt k e).2;omega) (IW w #[J I op,U t,J I k] 124 (N #[J I p,Y a (ZU s) j_,J I st,J I l,ZF ZA,J I 0,U ⟨#[]⟩,ZF ZA,U ⟨#[]⟩,ZF ZA] 192) (N #[J I 0,Y Z 0 0,J I 0,J I 0,ZF ZA,J I 0,U ⟨#[]⟩,ZF ZA,U ⟨#[]⟩,ZF ZA] 192) 0 (J I op) rfl));clear Z9 hY O A0;go_enter func160,ntmps160;go_wp2_with fail;generalize World.alloc (World.alloc (World.alloc w _) _) _=W0 at C ⊢;refine(dl nm _).P ?_;rintro e g⟨rfl,ZR⟩;replace C:=ae (C.aa ZR);have hz1:=C.zer.1;have i0:=C.arg;clear ZR;have R1:=ae C.run;obtain⟨x,⟨c0,f0⟩,⟨c1,f1⟩,⟨c2,P⟩,⟨c3,f3⟩,⟨c4,f4⟩,⟨c5,ZQ⟩,⟨M,V⟩,⟨S,f7⟩,⟨c8,ZO⟩,X,ZN⟩:=R1.i;rcases HQ.i with⟨h1,rfl⟩|⟨h1,h2,rfl⟩|⟨h1,h2,⟨h3,rfl⟩|⟨h3,h⟩⟩
 all_goals
  rw[h1];clear HQ
 case' inr.inr.inl =>
  have ZE:=ae (((C.zer.other (Q (z (A w)+1) 9 Z) (ZF ZH) (by simp)).other (Q (z (A w)+1) 7 Z) (ZF ((op:Int) == 12)) (by simp)).other (Q (z (A w)+1) 8 Z) (U nm) (by simp));have B2:=ae (((C.bl.setCell (p:=(Q (z (A w)+1) 9 Z)) (by simp) (ZF ZH)).setCell (p:=(Q (z (A w)+1) 7 Z)) (by simp) (ZF ((op:Int) == 12))).setCell (p:=(Q (z (A w)+1) 8 Z)) (by simp) (U nm));obtain⟨u,⟨z0,y0⟩,⟨z1,ZL⟩,⟨z2,ZM⟩,⟨z3,R⟩,⟨o,y4⟩,⟨j,y5⟩,⟨i,y6⟩,⟨r,y7⟩,⟨q,ZP⟩,m,y9⟩:=ZE.i;have hw:(n:Int)<=l:=by omega
  go_wp2;exact bp (v:=ec p (Y a (ZU s) j_) st l ZA 0 ⟨#[]⟩ ((op:Int) == 12) nm ZH) (by simp[results,T0,go_sem,z0,z1,z2,z3,o,j,i,r,q,m]) rfl ⟨_,rfl,⟨_,_,_,_,_,rfl⟩,dS (B2.P hb) (by omega) _ _ _ _ _ _ _ _ _ _⟩
 case' inr.inr.inr =>
  obtain⟨d0,d1,d2⟩:=(HY.aa C.bl ly).2 l h3;have hln:(l:Int)<n:=by omega
  have hz0:z (A w)<z (A g):=by omega
  have hz01:z (A w)+1<z (A g):=by omega
  replace C:=ae ((C.next ((l:Int)+1)).al (N #[ZF (y l).has,J I (y l).M,U (y l).H] 141));have g0:=kH (B g (Q (z (A w)+1) 3 Z) (J I ((l:Int)+1))) #[ZF (y l).has,J I (y l).M,U (y l).H] 141 (z (A g)) 0 (ZF (y l).has) (by simp) rfl;have g1:=kH (B g (Q (z (A w)+1) 3 Z) (J I ((l:Int)+1))) #[ZF (y l).has,J I (y l).M,U (y l).H] 141 (z (A g)) 1 (J I (y l).M) (by simp) rfl;have g2:=kH (B g (Q (z (A w)+1) 3 Z) (J I ((l:Int)+1))) #[ZF (y l).has,J I (y l).M,U (y l).H] 141 (z (A g)) 2 (U (y l).H) (by simp) rfl;have ld:z (A g)<z (A (ZV (B g (Q (z (A w)+1) 3 Z) (J I ((l:Int)+1))) (N #[ZF (y l).has,J I (y l).M,U (y l).H] 141))):=by simp
  go_upto_region 12 with fail;clear x c0 f0 c1 f1 c2 P c3 f3 c4 f4 c5 ZQ M V S f7 c8 ZO X ZN R1 d0 d1 d2 i0;generalize World.alloc (World.setCell g _ _) _=W at C g0 g1 g2 ld ⊢;have i0:=C.arg;have hbW:base<=z (A W):=nX hb C.bl.size;obtain⟨L,hi,ZS,H,D⟩:=NP gX;obtain⟨x,⟨c0,f0⟩,⟨c1,f1⟩,⟨c2,P⟩,⟨c3,f3⟩,⟨c4,f4⟩,⟨c5,ZQ⟩,⟨M,V⟩,⟨S,f7⟩,⟨c8,ZO⟩,X,ZN⟩:=C.run;rcases h with⟨rfl,rfl⟩|⟨rfl,⟨h4,rfl⟩|⟨h4,⟨h5,rfl⟩|⟨h5,rfl⟩⟩⟩
  case' inr.inl|inr.inr.inr=>rw[h4] at g0
  case' inr.inr.inl =>rw[h4] at g0;rw[h5] at g1;go_wp2_with (at_builtin;refine DN _ rfl (.tmp 70) (.tmp 73) 43 rfl base 9 L (U ⟨#[]⟩) 1 16 NH hi ZS H D rfl (by decide) (Y a (ZU s) j_) (ZU s) (strs s) (by simp[Act.eval]) (by first|exact C.y.alloc _|exact C.y.drew.alloc _|exact C.y.drew.drew.alloc _) (Q (z (A W)) 0 Z) 1 1 [U (y l).H] (by simp[Act.eval]) rfl (by first|exact ep W _ _|exact ep W.drew _ _|exact ep W.drew.drew _ _) (by simp[Value.oneCell']) (by unfold maxLen;omega) (by omega) (by simp<;>omega) ?_;intro v' w2 b f ZZ;obtain⟨gg,Z8,rfl⟩:=iA b (by omega);have G:=ae (LkS.grown (by first|exact C.al _|exact C.drew.al _|exact C.drew.drew.al _) f hb);obtain⟨bt,⟨k0,m0⟩,⟨k1,m1⟩,⟨k2,m2⟩,⟨k3,m3⟩,⟨k4,m4⟩,⟨k5,m5⟩,⟨k6,m6⟩,⟨k7,m7⟩,⟨k8,m8⟩,k9,m9⟩:=G.1;obtain⟨u,⟨z0,y0⟩,⟨z1,ZL⟩,⟨z2,ZM⟩,⟨z3,R⟩,⟨o,y4⟩,⟨j,y5⟩,⟨i,y6⟩,⟨r,y7⟩,⟨q,ZP⟩,m,y9⟩:=G.2.1)
  case' inl =>go_wp2_with fail;go_region_law (first|(refine dR rfl (.tmp 49) (.tmp 53) 43 rfl base 9 L (U ⟨#[]⟩) 1 16 NH hi ZS H D rfl (by decide) (Y a (ZU s) j_) (ZU s) (strs s) (by simp[Act.eval]) (by first|exact C.y.alloc _|exact C.y.drew.alloc _|exact C.y.drew.drew.alloc _) (Q (z (A W)) 0 Z) 1 1 [U (eU (y l).has)] (by simp[Act.eval]) rfl (by first|exact ep W _ _|exact ep W.drew _ _|exact ep W.drew.drew _ _) (by simp[Value.oneCell']) (by unfold maxLen;omega) (by omega) (by simp<;>omega) ?_;intro v' w2 b f ZZ;obtain⟨gg,Z8,rfl⟩:=iA b (by omega);have G:=ae (LkS.grown (by first|exact C.al _|exact C.drew.al _|exact C.drew.drew.al _) f hb);obtain⟨bt,⟨k0,m0⟩,⟨k1,m1⟩,⟨k2,m2⟩,⟨k3,m3⟩,⟨k4,m4⟩,⟨k5,m5⟩,⟨k6,m6⟩,⟨k7,m7⟩,⟨k8,m8⟩,k9,m9⟩:=G.1;obtain⟨u,⟨z0,y0⟩,⟨z1,ZL⟩,⟨z2,ZM⟩,⟨z3,R⟩,⟨o,y4⟩,⟨j,y5⟩,⟨i,y6⟩,⟨r,y7⟩,⟨q,ZP⟩,m,y9⟩:=G.2.1)|(go_simp;go_at_call 178;refine(qw _ _).P ?_;rintro e w9⟨rfl,fd⟩;subst fd))
  all_goals (try (have ZT:=Bw b (yc (s:=s)).choose_spec G.1.2.1.1;have mv:=Bw b (yc (s:=s)).choose_spec G.2.1.2.1.1;have la:=ae (dT b ZT (Y (T (Q gg 0 Z)) (ZU s+1) Z8) 1);have B4:=ae (G.2.2.setCell (p:=(Q (z (A w)+1) 1 Z)) (by simp;omega) (Y (T (Q gg 0 Z)) (ZU s+1) Z8));clear b f ZZ ZT;(try go_wp2);refine bp (v:=ec p (Y (T (Q gg 0 Z)) (ZU s+1) Z8) st ((l:Int)+1) ZA 0 ⟨#[]⟩ ZA ⟨#[]⟩ ZA) (by simp[results,T0,go_sem,z0,z1,z2,z3,o,j,i,r,q,m]) rfl ⟨_,rfl,⟨T (Q gg 0 Z),Z8,by simp,?_⟩,dS B4.i (by omega) _ _ _ _ _ _ _ _ _ _⟩;rw[gQ];exact E9 la mv _ _ _ _ _ _ _ _ _ _))
 all_goals
  go_wp2_with fail;refine(fN _ _ _ _ _ _ _ _ _ _ _ _ _ _ _).P ?_;rintro e w2⟨rfl,K⟩;replace C:=ae (C.aa K);clear K x c0 f0 c1 f1 c2 P c3 f3 c4 f4 c5 ZQ M V S f7 c8 ZO X ZN;obtain⟨u,⟨z0,y0⟩,⟨z1,ZL⟩,⟨z2,ZM⟩,⟨z3,R⟩,⟨o,y4⟩,⟨j,y5⟩,⟨i,y6⟩,⟨r,y7⟩,⟨q,ZP⟩,m,y9⟩:=C.zer;go_wp2;first
   |exact bp (v:=ec p (Y a (ZU s) j_) st l ZH 3 ⟨#[]⟩ ZA ⟨#[]⟩ ZA) (by simp[results,T0,go_sem,z0,z1,z2,z3,o,j,i,r,q,m]) rfl ⟨_,rfl,⟨_,_,_,_,_,rfl⟩,dS (C.bl.P hb) (by omega) _ _ _ _ _ _ _ _ _ _⟩
   |exact bp (v:=ec p (Y a (ZU s) j_) st l ZH 2 pl ZA ⟨#[]⟩ ZA) (by simp[results,T0,go_sem,z0,z1,z2,z3,o,j,i,r,q,m]) rfl ⟨_,rfl,⟨_,_,_,_,_,rfl⟩,dS (C.bl.P hb) (by omega) _ _ _ _ _ _ _ _ _ _⟩
   |exact bp (v:=ec p (Y a (ZU s) j_) st ((l:Int)+1) ZH 4 nm ZA ⟨#[]⟩ ZA) (by simp[results,T0,go_sem,z0,z1,z2,z3,o,j,i,r,q,m]) rfl ⟨_,rfl,⟨_,_,_,_,_,rfl⟩,dS (C.bl.P hb) (by omega) _ _ _ _ _ _ _ _ _ _⟩
   |exact bp (v:=ec p (Y a (ZU s) j_) st ((l:Int)+1) ZH 5 nm ZA ⟨#[]⟩ ZA) (by simp[results,T0,go_sem,z0,z1,z2,z3,o,j,i,r,q,m]) rfl ⟨_,rfl,⟨_,_,_,_,_,rfl⟩,dS (C.bl.P hb) (by omega) _ _ _ _ _ _ _ _ _ _⟩
def add0 (g j:Nat):((Q g 0 Z):Addr).add j=(Q g j Z):=by unfold Addr.add;split<;>simp_all
def Hl (h:ZY w base e 1 (Y (T (Q g 0 Z)) (ZU r+1) j_) (ZU r+1) (strs (x::r))):ZW w (Q g (ZU r) Z)=T (U x):=by have:=h.cells (g:=g) rfl (ZU r) (U x) (by rw[gQ,KK (by simp)];simp);rwa[add0] at this
def Hm{ZZ:F_}(h:ZY w base e 1 (Y (T (Q g 0 Z)) (ZU r+2) j_) (ZU r+2) (strs (x::ZZ::r))):ZW w (Q g (ZU r+1) Z)=T (U x)/\ZW w (Q g (ZU r) Z)=T (U ZZ):=by have h1:=h.cells (g:=g) rfl (ZU r+1) (U x) (by rw[gQ,KK (by simp)];simp);have h2:=h.cells (g:=g) rfl (ZU r) (U ZZ) (by rw[gQ,NI (by simp),gQ,KK (by simp)];simp);rw[add0] at h1 h2;exact⟨h1,h2⟩
def Hn{b:List ZB}(h:ZY w base e 1 (Y (T (Q g 0 Z)) n j_) n b):n<=j_:=by
 rcases h.2 with⟨i,_⟩|⟨g,c,cur,f,_,_,hn,_⟩
 {simp at i};{simp at f;omega}
def Ho{xs:List ZB}(h:ZY w base e 1 (Y (T (Q g 0 Z)) n j_) n (strs r++xs)):∀j u,(strs r)[j]?=T u->w.cell? (((Q g 0 Z):Addr).add j)=T u:=λj u b =>h.cells (g:=g) rfl j u (by rw[NI (by obtain⟨f,_⟩:=j5.1 b;exact f)];exact b)
def sM{v:ZB}(h:ZY w base e 1 v n i)(b:v≠.slice Z 0 0):∃g j_,v=Y (T (Q g 0 Z)) n j_/\base<=g:=by
 rcases h.2 with⟨j,_⟩|⟨g,j_,cur,b,f,_⟩
 {exact absurd j b};{exact⟨g,j_,b,f⟩}
def Fa (r:List F_):∀u∈strs r,u.oneCell'=ZH:=by intro u b;obtain⟨x,_,rfl⟩:=NN.1 b;rfl
def SoIs.form{v:ZB}{r:SO}(h:SoIs w base v r):∃(at_:Int) (a:O_) (n j_:Nat) (st lk:Int) (f:Bool) (c:Int) (x:F_) (ask:Bool) (nm:F_) (b:Bool),v=ec at_ (Y a n j_) st lk f c x ask nm b:=by
 rcases r with⟨p,st,l,s⟩|⟨c,x,st⟩|⟨ask,nm,st⟩
 {obtain⟨a,j_,e,_⟩:=h;exact⟨_,_,_,_,_,_,_,_,_,_,_,_,e⟩};{obtain⟨at_,a,n,j_,lk,e⟩:=h;exact⟨_,_,_,_,_,_,_,_,_,_,_,_,e⟩};{obtain⟨at_,a,n,j_,lk,e⟩:=h;exact⟨_,_,_,_,_,_,_,_,_,_,_,_,e⟩}
def SoIs.set{v:ZB}{r:SO}(h:SoIs w base v r){k:Nat}(b:k<base)(j:Nat)(u:ZB):SoIs (B w (Q k j Z) u) base v r:=by
 rcases r with⟨p,st,l,s⟩|⟨c,x,st⟩|⟨ask,nm,st⟩
 {obtain⟨a,j_,e,f⟩:=h;exact⟨a,j_,e,WH f (a:=(Q k j Z)) b u⟩};{exact h};{exact h}
def SoIs.P{base':Nat}{v:ZB}{r:SO}(h:SoIs w base v r)(hb:base'<=base):SoIs w base' v r:=h.kept br hb
def BD{v:ZB}{r:SO}(h:SoIs w base v r){k:Nat}(b:k<base)(v0 v1 v2 v3 v4 v5 v6 v7 v8 v9:ZB):SoIs (B (B (B (B (B (B (B (B (B (B w (Q k 0 Z) v0) (Q k 1 Z) v1) (Q k 2 Z) v2) (Q k 3 Z) v3) (Q k 4 Z) v4) (Q k 5 Z) v5) (Q k 6 Z) v6) (Q k 7 Z) v7) (Q k 8 Z) v8) (Q k 9 Z) v9) base v r:=
 (((((((((h.set b 0 v0).set b 1 v1).set b 2 v2).set b 3 v3).set b 4 v4).set b 5 v5).set b 6 v6).set b 7 v7).set b 8 v8).set b 9 v9
def zK (op n:Nat)(t a b:F_)(h1:1<=op)(h11:op<=11):(cB op n t a b).length=bN op:=by rcases(show op=1\/op=2\/op=3\/op=4\/op=5\/op=6\/op=7\/op=8\/op=9\/op=10\/op=11 by omega) with rfl|rfl|rfl|rfl|rfl|rfl|rfl|rfl|rfl|rfl|rfl;all_goals rfl
def Hp (h1:1<=op)(h11:op<=11)(h:j<bN op):op<=8:=by rcases(show op=1\/op=2\/op=3\/op=4\/op=5\/op=6\/op=7\/op=8\/op=9\/op=10\/op=11 by omega) with rfl|rfl|rfl|rfl|rfl|rfl|rfl|rfl|rfl|rfl|rfl;all_goals simp[bN] at h ⊢
def Fb (op:Nat):bN op<=2:=by
 unfold bN;split;{omega};{split<;>omega}
def gR (b:List F_)(pl:F_)(r:List F_)(p st l:Nat):SO:=if b.all (λx=>decide (x.size<=2000)) then .inl (p,st,l,(b.reverse++r)) else .inr (.inl (2,pl,st))
def BH{b:List F_}(h:j<ZU b):(b.take (j+1)).map Value.string=(b.take j).map Value.string++[U (b.getD j ⟨#[]⟩)]:=by rw[V4,NE,gq h];simp[h]
def Fc (b r:List F_):strs (b.reverse++r)=strs r++b.map Value.string:=by simp[strs]
def Hq{b:List F_}(h:j<ZU b)(f:¬ ((b.getD j ⟨#[]⟩).size:Int)<=2000):b.all (λx=>decide (x.size<=2000))=ZA:=by simp only[List.all_eq_false];exact⟨b[j],gz h,by simp[h] at f ⊢;omega⟩
def Fe{b:List F_}(h:∀i,i<ZU b->(b.getD i ⟨#[]⟩).size<=2000):b.all (λx=>decide (x.size<=2000))=ZH:=by simp only[List.all_eq_true,nD];intro x f;obtain⟨i,hi,rfl⟩:=List.mem_iff_getElem.1 f;have:=h i hi;simpa[hi] using this
def iE (y:Nat->aD)(n z_ st v_:Nat):Res->SO
 |.inr (.inl (c,x))=>.inr (.inl (c,x,st))
 |.inl (s',p)=>.inl (p,st,v_,s')
 |.inr (.inr (a,nm,s'))=>kj y n a nm s' (z_+1) st v_
def gn (f:Nat->Ins)(y_:Nat)(y:Nat->aD)(n z_ k_ v_:Nat)(s:List F_):SO:=iE y n z_ (cU y_ z_ k_) v_ (bQ f y_ z_ k_ v_ s)
def BJ (h:ZY w base e 1 (Y a n j_) n i):(a=Z/\n=0/\j_=0)\/∃g,a=T (Q g 0 Z):=by
 rcases h.2 with⟨f,_⟩|⟨g,c,cur,b,_⟩
 {simp only[IN] at f;exact .inl f};{simp only[IN] at b;exact .inr ⟨g,b.1⟩}
def zL (op k:Nat)(t a b:F_)(h1:1<=op)(h11:op<=11)(h2:op≠2)(g:t.size<=2000)(f:a.size<=2000)(hb:b.size<=2000):(cB op k t a b).all (λx=>decide (x.size<=2000))=ZH:=by
 rcases(show op=1\/op=3\/op=4\/op=5\/op=6\/op=7\/op=8\/op=9\/op=10\/op=11 by omega) with rfl|rfl|rfl|rfl|rfl|rfl|rfl|rfl|rfl|rfl;{simp[cB,g]};{simp only[cB,WT,XX,TA,nD];split;{simp;omega};{exact f}};{simp only[cB,WT,XX,TA,nD];split;{simp;omega};{decide}};{simp only[cB,WT,XX,TA,nD];exact nX (qA _ _) f};{simp only[cB,WT,XX,TA,nD];exact jr _};{simp[cB,f]};{simp[cB,f,hb]};{rfl};{rfl};{rfl}
def zN (op k:Nat)(t a b pl:F_)(r:List F_)(p st l:Nat)(h1:1<=op)(f:op<=11)(h2:op≠2)(g:t.size<=2000)(h:a.size<=2000)(hb:b.size<=2000):gR (cB op k t a b) pl r p st l=.inl (p,st,l,((cB op k t a b).reverse++r)):=by unfold gR;rw[zL op k t a b h1 f h2 g h hb];rfl
def IX (k:Nat)(t x ZZ:F_)(r:List F_)(y:Nat->aD)(n z_ st v_:Nat):iE y n z_ st v_ (cK 2 k t z_ v_ (x::ZZ::r))=gR (cB 2 k t x ZZ) (dV z_) r (z_+1) st v_:=by
 unfold gR;simp only[cK,cB,WT,XX,TA,PV];by_cases h:ZZ.size+x.size<=2000;{rw[eT h,eT (by simpa using h)];rfl};{rw[eI h,eI (by simpa using h)];rfl}
def yd (op:Nat)(y:Nat->aD)(n z_ st v_:Nat)(x:F_)(r:List F_)(b:Bool)(hb:((op:Int) == 12)=b):iE y n z_ st v_ (iN b x r z_ v_)=jR y n op (dV z_) x r (z_+1) st v_:=by
 unfold iN jR;rw[hb];by_cases h1:aA x=ZA;{rw[eT h1,eT h1];rfl};{rw[eI h1,eI h1];by_cases h2:v_=200;{rw[eT h2,eT h2];rfl};{rw[eI h2,eI h2];rfl}}
def Ff (l r:List F_):strs (l++r)=strs r++strs l:=by simp[strs]
def lZ (op:Nat)(s:List F_):F_:=if 0<aX op then s.getD 0 ⟨#[]⟩ else ⟨#[]⟩
def rI (op:Nat)(s:List F_):F_:=if 1<aX op then s.getD 1 ⟨#[]⟩ else ⟨#[]⟩
def nJ (op k:Nat)(a:F_)(z_:Nat):Nat:=if op=10 then k else if op=11/\(a.toList=[]\/(a.toList == [48])=ZH) then k else z_+1
def JC{k z_:Nat}{Z8:F_}(h:op=10\/op=11/\Z8.toList.isEmpty=ZH\/op=11/\(Z8.toList == [48])=ZH):nJ op k Z8 z_=k:=by
 unfold nJ;rcases h with rfl|⟨rfl,h⟩|⟨rfl,h⟩
 {rfl};{rw[eI (by omega),eT ⟨rfl,.inl (List.isEmpty_iff.1 h)⟩]};{rw[eI (by omega),eT ⟨rfl,.inr h⟩]}
def Hr (op:Nat)(Z8:F_)(h:op<=15):op=15\/op=14\/op=12\/op=13\/op=10\/(op=11/\Z8.toList.isEmpty=ZH)\/(op=11/\Z8.toList.isEmpty=ZA/\(Z8.toList == [48])=ZH)\/(op=11/\Z8.toList.isEmpty=ZA/\(Z8.toList == [48])=ZA)\/op<=9:=by
 by_cases e:op=11;{subst e;cases Z8.toList.isEmpty<;>cases (Z8.toList == [48])<;>simp};{omega}
def vg (h:∀x∈s,x.size<=2000)(op:Nat):(lZ op s).size<=2000/\(rI op s).size<=2000:=by
 have g:∀j,(s.getD j ⟨#[]⟩).size<=2000:=λj=>by
  rw[CL];rcases hj:s[j]? with _|x;{exact DW _};{exact h x (I5 hj)}
 refine⟨?_,?_⟩;{unfold lZ;split;{exact g 0};{exact DW _}};{unfold rI;split;{exact g 1};{exact DW _}}
def Fg (op k:Nat)(t:F_)(s:List F_)(y:Nat->aD)(n z_ st v_:Nat)(h1:1<=op)(f:op<=11)(hb:aX op<=ZU s)(h:t.size<=2000)(b:∀x∈s,x.size<=2000):iE y n z_ st v_ (cK op k t z_ v_ s)=gR (cB op k t (lZ op s) (rI op s)) (dV z_) (s.drop (aX op)) (nJ op k (lZ op s) z_) st v_:=by
 have i:=(vg b op).1;have g:=(vg b op).2;by_cases h2:op=2
 ·subst h2;match s,hb with
  |x::ZZ::r,_=>exact IX k t x ZZ r y n z_ st v_
 ·rw[zN op k t _ _ _ _ _ _ _ h1 f h2 h i g];rcases(show op=1\/op=3\/op=4\/op=5\/op=6\/op=7\/op=8\/op=9\/op=10\/op=11 by omega) with rfl|rfl|rfl|rfl|rfl|rfl|rfl|rfl|rfl|rfl;{rfl};iterate 3
   ·match s,hb with
    |x::r,_=>rfl
  ·match s,hb with
   |x::ZZ::r,_=>rfl
  ·match s,hb with
   |x::r,_=>rfl
  ·match s,hb with
   |x::ZZ::r,_=>rfl
  ·match s,hb with
   |x::r,_=>rfl
  {rfl}
  ·match s,hb with
   |x::r,_ =>show iE y n z_ st v_ (cK 11 k t z_ v_ (x::r))=.inl (nJ 11 k x z_,st,v_,r);simp only[cK,iE,nJ,show((11:Nat)=10)=False by simp,UI,TX]
def Ht (op k:Nat)(t:F_)(s:List F_)(y:Nat->aD)(n z_ st v_:Nat)(h:op=12\/op=13)(hb:aX op<=ZU s):iE y n z_ st v_ (cK op k t z_ v_ s)=jR y n op (dV z_) (lZ op s) (s.drop (aX op)) (z_+1) st v_:=by
 rcases h with rfl|rfl
 ·match s,hb with
  |x::r,_=>exact yd 12 y n z_ st v_ x r ZH rfl
 ·match s,hb with
  |x::r,_=>exact yd 13 y n z_ st v_ x r ZA rfl
def ye (op k:Nat)(t:F_)(s:List F_)(y:Nat->aD)(n z_ st v_:Nat)(h:op=14\/op=15)(hb:aX op<=ZU s):iE y n z_ st v_ (cK op k t z_ v_ s)=.inr (.inl (15 - (op:Int),lZ op s,st)):=by
 rcases h with rfl|rfl
 ·match s,hb with
  |x::r,_=>rfl
 ·match s,hb with
  |x::r,_=>rfl
def eJ (f:Nat->au)(l:Link):aD:=
 if l.ask=ZH then
  (if (f l.G.toNat).m=1 then ⟨ZH,0,(f l.G.toNat).H⟩ else if (f l.G.toNat).m=3 then ⟨ZH,(f l.G.toNat).M,(f l.G.toNat).H⟩ else ⟨ZA,0,⟨#[]⟩⟩)
 else ⟨l.has,0,⟨#[]⟩⟩
def yOf (f:Nat->au)(p:Nat)(k:Nat):aD:=eJ f ((f p).l k)
def bB (f:Nat->au)(p k:Nat):Turn:=cA (f p).u (f p).h (yOf f p) k 2001 0 0 0 []
def eA (f:Nat->au)(p k:Nat):Bool:=(bB f p k).L || !((bB f p k).e.toList == ((f p).l k).e.toList) || !((bB f p k).ask == ((f p).l k).ask)
def eF (f:Nat->au)(p:Nat):Nat->Nat->Nat
 |0,k=>k
 |j+1,k=>if eA f p k=ZH then k else eF f p j (k+1)
def bD (f:Nat->au)(p:Nat):Nat:=eF f p (f p).f 0
def gB (f:Nat->au)(p:Nat):Int:=
 if bD f p<(f p).f then 4 else if (bB f p (bD f p)).L=ZA then 4 else if (bB f p (bD f p)).M=(f p).M/\(bB f p (bD f p)).H.toList=(f p).H.toList then 0 else 5
def codeF (f:Nat->au)(p:Nat):Int:=if (f p).m=3 then gB f p else 0
def zO (f:Nat->au):Nat->Int × Int
 |0=>(0,0)
 |k+1=>if (zO f k).1=0 then (if codeF f k=0 then (0,0) else (codeF f k,(k:Int))) else zO f k
def px (f:Nat->au)(p:Nat):∀j k,k<=eF f p j k/\eF f p j k<=k+j
 |0,k=>⟨p7 _,p7 _⟩
 |j+1,k=>by
  rw[eF];split
  ·omega
  ·have:=px f p j (k+1)
   omega
def vh{k:Nat}(h:eA f p k=ZA):eF f p (j+1) k=eF f p j (k+1):=by rw[eF,eI (by rw[h];simp)]
def vi{k:Nat}(h:eA f p k=ZH):eF f p (j+1) k=k:=by rw[eF,eT h]
def Jv (b:∀i,i<n->codeF f i=0):zO f n=(0,0):=by
 induction n with
 |zero=>rfl
 |succ m g=>rw[zO,g λi hi=>b i (by omega),eT rfl,eT (b m (by omega))]
def ed (h:bc f n=ZH):∀p,p<n->(f p).H.size<=2000/\((f p).m=1/\(f p).M=0\/(f p).m=2/\(f p).M=0/\(f p).H.size=0\/(f p).m=3/\0<=(f p).M/\(f p).M<=5/\valid (f p).u (f p).h=ZH/\(f p).f<=200):=by
 intro p g;have h1:=eN (er h).2.2 p g;simp only[bw,j6,kindOk,nD] at h1;obtain⟨⟨_,i⟩,h2⟩:=h1;refine⟨i,?_⟩;split at h2;{rename_i b;simp only[aY,j6,nD] at h2;exact .inl ⟨b,h2.1.1⟩};{split at h2;{rename_i b;simp only[aY,j6,nD] at h2;exact .inr (.inl ⟨b,h2.1.1.1,h2.2⟩)};{split at h2;{rename_i b;simp only[cC,j6,nD] at h2;exact .inr (.inr ⟨b,h2.1.1.1.1,h2.1.1.1.2,h2.1.1.2,h2.1.2⟩)};{simp at h2}}}
def yg (h:bc f n=ZH){l:Link}(b:l.ask=ZH->l.G.toNat<n):cI (eJ f l)=ZH:=by
 unfold eJ cI;split;{rename_i g;obtain⟨h1,h2⟩:=ed h _ (b g);split;{simp;omega};{split;{rename_i hk1 hk3;rcases h2 with h2|h2|h2;{omega};{omega};{simp;omega}};{exact QD ⟨DW _,by decide,by decide⟩}}};{exact QD ⟨DW _,YR _,show(0:Int)<=7 by decide⟩}
def vj{k:Nat}(h:∀i,i<k->cI (y i)=ZH):bU y k=ZH:=by
 induction k with
 |zero=>rfl
 |succ k b=>rw[bU,b λi hi=>h i (by omega),h k (by omega)];rfl
def nK (h:bc f n=ZH){l:Link}(m:l.ask=ZH)(j:l.G.toNat<n):eJ f l=⟨decide (¬ (f l.G.toNat).m=2),(f l.G.toNat).M,(f l.G.toNat).H⟩:=by
 obtain⟨h1,h2⟩:=ed h _ j;unfold eJ;rw[eT m];rcases h2 with⟨b,g⟩|⟨b,g,i⟩|⟨b,g⟩
 {rw[eT b,b,g];rfl};{rw[eI (by omega),eI (by omega),b,g];have:(f l.G.toNat).H=⟨#[]⟩:=YU (TG i);rw[this];rfl};{rw[eI (by omega),eT b,b];rfl}
def oR (s j n j_:Nat)(f:Nat->au)(l:Link)(w:E)(r:bc f n=ZH)(q:Qk w s j n f)(Z8:l.ask=ZH->0<=l.G/\l.G.toNat<n):Calls Pg 155 #[ZJ #[Y (T (Q s j Z)) n j_],ZJ #[U l.e,ZF l.ask,ZF l.has,J I l.G]] w λe w'=>e=ZI (ZJ #[ZF (eJ f l).has,J I (eJ f l).M,U (eJ f l).H])/\Below (z (A w)) w w':=by
 have O:=ae q;have u:=ae (λG:l.ask=ZH=>nK r G (Z8 G).2);have ZZ:=ae Z8;have t:=ae (show l.ask=ZA->eJ f l=⟨l.has,0,⟨#[]⟩⟩ from λh=>by unfold eJ;rw[eI (by rw[h];simp)]);clear q r Z8;obtain⟨R,hR⟩:∃R,R=eJ f l:=⟨_,rfl⟩
 rw[<-hR] at u t ⊢;clear hR;obtain⟨nm,ask,x,at_⟩:=l;dsimp only at u ZZ t ⊢;have y:=ae ((((BS w).alloc ly (N #[Y (T (Q s j Z)) n j_] 25)).alloc (by simp) (N #[U nm,ZF ask,ZF x,J I at_] 74)).alloc (by simp;omega) (N #[ZF ZA,J I 0,U ⟨#[]⟩] 141));cases ask with
 |false =>
  obtain rfl:R=⟨x,0,⟨#[]⟩⟩:=t.i rfl;dsimp only;go_enter func155,ntmps155;go_wp2
  exact bp (v:=ZJ #[ZF x,J I 0,U ⟨#[]⟩]) (by simp[results,results155,go_sem]) rfl ⟨rfl,by
   repeat (first|exact a8 _ _|refine VG ?_ (by simp<;>omega) _)⟩
 |true =>
  obtain⟨h1,h2⟩:=ZZ.i rfl;obtain⟨p,rfl⟩:=p9 h1;have ZR:p<n:=by simpa using h2
  obtain rfl:R=⟨decide (¬ (f p).m=2),(f p).M,(f p).H⟩:=by have:=u.i rfl;simpa using this
  dsimp only;obtain⟨ZS,ZO,ZP,S,⟨P,C,ZQ,K⟩,⟨ZL,Z9,ZM,L⟩⟩:=(O.i.aa y.i ly).2 p ZR;clear K L u t ZZ;have hpn:(p:Int)<n:=by omega
  go_enter func155,ntmps155;go_wp2_with fail;clear ZS ZO ZP S ZQ ZM;obtain⟨m,o⟩:∃W:E,ZV (ZV (ZV w (N #[Y (T (Q s j Z)) n j_] 25)) (N #[U nm,ZF ZH,ZF x,J I (p:Int)] 74)) (N #[ZF ZA,J I 0,U ⟨#[]⟩] 141)=W:=⟨_,rfl⟩
  obtain⟨-,-,-,-,z0⟩:=nb3 o;have b:=ae o;clear o;have c0:ZW m (Q (z (A w)+1+1) 0 Z)=T (ZF ZA):=by rw[<-b.i];simp[go_sem]
  have D:ZX m (Q (z (A w)+1+1) 0 Z)=ZA:=by rw[<-b.i];simp[go_sem]
  have c1:ZW m (Q (z (A w)+1+1) 1 Z)=T (J I 0):=by rw[<-b.i];simp[go_sem]
  have ZT:ZX m (Q (z (A w)+1+1) 1 Z)=ZA:=by rw[<-b.i];simp[go_sem]
  have c2:ZW m (Q (z (A w)+1+1) 2 Z)=T (U ⟨#[]⟩):=by rw[<-b.i];simp[go_sem]
  have H:ZX m (Q (z (A w)+1+1) 2 Z)=ZA:=by rw[<-b.i];simp[go_sem]
  rw[b.i] at y ⊢;clear b;refine(sj (f p) P C ZL Z9 _).P ?_;rintro e V⟨rfl,i⟩;have g:z (A w)+1+1<z (A m):=by omega
  have M:=(i.O (p:=(Q (z (A w)+1+1) 0 Z)) g).k c0;have ZN:=(i.O (p:=(Q (z (A w)+1+1) 1 Z)) g).k c1;have X:=(i.O (p:=(Q (z (A w)+1+1) 2 Z)) g).k c2;have e0:=(i.frozen (p:=(Q (z (A w)+1+1) 0 Z)) g).k D;have e1:=(i.frozen (p:=(Q (z (A w)+1+1) 1 Z)) g).k ZT;have e2:=(i.frozen (p:=(Q (z (A w)+1+1) 2 Z)) g).k H;have B1:=ae (y.i.k (i.P y.i.size));have hz1:z (A w)+1+1<z (A V):=lj g i.size;clear i c0 c1 c2 D ZT H;go_wp2;exact bp (v:=ZJ #[ZF (decide (¬ (f p).m=2)),J I (f p).M,U (f p).H]) (by simp[results,results155,go_sem,M,ZN,X]) rfl ⟨rfl,((B1.i.setCell (p:=(Q (z (A w)+1+1) 0 Z)) (by simp;omega) _).setCell (p:=(Q (z (A w)+1+1) 1 Z)) (by simp;omega) _).setCell (p:=(Q (z (A w)+1+1) 2 Z)) (by simp;omega) _⟩
def qE (Z9 q n j_:Nat)(f:Nat->au)(p u x o:Nat)(a1:O_)(s:Nat)(w:E)(C:bc f n=ZH)(hp:p<n)(hk:(f p).m=3)(X:Qk w Z9 q n f)(hI:Q_ w u x (f p).h (f p).u)(ur:SlLink w a1 (f p).f (f p).l)(fd:Tab2 w)(L:Pow w):Calls Pg 120 #[ZJ #[Y (T (Q Z9 q Z)) n j_],ZJ #[U (f p).e,J I (f p).m,J I (f p).M,U (f p).H,Y (T (Q u x Z)) (f p).h o,Y a1 (f p).f s]] w λe w'=>e=ZI (.tuple #[(bB f p (bD f p)).v,J I (((f p).f:Int) - (bD f p:Int))])/\Below (z (A w)) w w':=by
 have JT:valid (f p).u (f p).h=ZH/\(f p).f<=200:=by
  rcases(ed C p hp).2 with h|h|h;{omega};{omega};{exact⟨h.2.2.2.1,h.2.2.2.2⟩}
 obtain⟨hv,hN⟩:=JT;have sm:(f p).h<=200:=by have:=(bJ hv).2.2;omega
 have JK:=ae (bJ hv).1;have K:=ae C;have n9:=ae (λj (hj:j<(f p).f) (S:((f p).l j).ask=ZH)=>(⟨(fq C p hp j hj S).1,Nat.lt_trans (fq C p hp j hj S).2.1 hp⟩:0<=((f p).l j).G/\((f p).l j).G.toNat<n));have ZM:=ae X;have HI:=ae hI;have J5:=ae ur;have DQ:=ae fd;have ro:=ae L;have hib:=hI.1;have JN:=fd.1;have hpwb:=L.lt;clear C X hI ur fd L hv hk;obtain⟨R,ph⟩:∃R,R=bB f p (bD f p):=⟨_,rfl⟩
 obtain⟨P,ZL⟩:∃P,P=bD f p:=⟨_,rfl⟩
 rw[<-ph,<-ZL];have Bk:=ae ph;have ZQ:=ae ZL;clear ph ZL;have ZP:=ae (show Below (z (A w)) w (ZV (ZV (ZV w (N #[Y (T (Q Z9 q Z)) n j_] 25)) (N #[U (f p).e,J I (f p).m,J I (f p).M,U (f p).H,Y (T (Q u x Z)) (f p).h o,Y a1 (f p).f s] 58)) (N #[ZF ZA,J I 0,U ⟨#[]⟩,ZF ZA,U ⟨#[]⟩,J I 0] 138)) from(((BS w).alloc ly (N #[Y (T (Q Z9 q Z)) n j_] 25)).alloc (by simp) (N #[U (f p).e,J I (f p).m,J I (f p).M,U (f p).H,Y (T (Q u x Z)) (f p).h o,Y a1 (f p).f s] 58)).alloc (by simp;omega) (N #[ZF ZA,J I 0,U ⟨#[]⟩,ZF ZA,U ⟨#[]⟩,J I 0] 138));have zA:z (A (ZV (ZV (ZV w (N #[Y (T (Q Z9 q Z)) n j_] 25)) (N #[U (f p).e,J I (f p).m,J I (f p).M,U (f p).H,Y (T (Q u x Z)) (f p).h o,Y a1 (f p).f s] 58)) (N #[ZF ZA,J I 0,U ⟨#[]⟩,ZF ZA,U ⟨#[]⟩,J I 0] 138)))=z (A w)+3:=by simp
 have kA:ZW (ZV (ZV (ZV w (N #[Y (T (Q Z9 q Z)) n j_] 25)) (N #[U (f p).e,J I (f p).m,J I (f p).M,U (f p).H,Y (T (Q u x Z)) (f p).h o,Y a1 (f p).f s] 58)) (N #[ZF ZA,J I 0,U ⟨#[]⟩,ZF ZA,U ⟨#[]⟩,J I 0] 138)) (Q (z (A w)) 0 Z)=T (Y (T (Q Z9 q Z)) n j_):=by simp[go_sem]
 have J8:ZW (ZV (ZV (ZV w (N #[Y (T (Q Z9 q Z)) n j_] 25)) (N #[U (f p).e,J I (f p).m,J I (f p).M,U (f p).H,Y (T (Q u x Z)) (f p).h o,Y a1 (f p).f s] 58)) (N #[ZF ZA,J I 0,U ⟨#[]⟩,ZF ZA,U ⟨#[]⟩,J I 0] 138)) (Q (z (A w)+1) 4 Z)=T (Y (T (Q u x Z)) (f p).h o):=by simp[go_sem]
 have ex:ZW (ZV (ZV (ZV w (N #[Y (T (Q Z9 q Z)) n j_] 25)) (N #[U (f p).e,J I (f p).m,J I (f p).M,U (f p).H,Y (T (Q u x Z)) (f p).h o,Y a1 (f p).f s] 58)) (N #[ZF ZA,J I 0,U ⟨#[]⟩,ZF ZA,U ⟨#[]⟩,J I 0] 138)) (Q (z (A w)+1) 5 Z)=T (Y a1 (f p).f s):=by simp[go_sem]
 have XA:=ae (by have h:=lm (ZV (ZV w (N #[Y (T (Q Z9 q Z)) n j_] 25)) (N #[U (f p).e,J I (f p).m,J I (f p).M,U (f p).H,Y (T (Q u x Z)) (f p).h o,Y a1 (f p).f s] 58)) (ZF ZA) (J I 0) (U ⟨#[]⟩) (ZF ZA) (U ⟨#[]⟩) (J I 0) 138;rw[show(z (A (ZV (ZV w (N #[Y (T (Q Z9 q Z)) n j_] 25)) (N #[U (f p).e,J I (f p).m,J I (f p).M,U (f p).H,Y (T (Q u x Z)) (f p).h o,Y a1 (f p).f s] 58))))=z (A w)+1+1 by simp] at h;exact h);have S0:Sim m0 0 0 0 []:=⟨trivial,rfl,by simp,rfl,rfl,rfl,by simp,by omega,by omega,by omega⟩
 obtain⟨H0,JG,Hx,JH⟩:=pw (f:=(f p).u) (y_:=(f p).h) (m:=m0) rfl S0;have JX:=ae JG;have Kd:=ae Hx;have JY:=ae JH;clear JG Hx JH S0;go_enter func120,ntmps120;go_wp2_with fail;generalize World.alloc (World.alloc (World.alloc w _) _) _=WA at ZP zA kA J8 ex XA ⊢;refine(Bv u x (f p).h o _).P ?_;rintro e w1⟨b,rfl,hb,W,th⟩;have Fd:=ae W;have B1:Hid (Below (z (A w)+3) WA w1):=by show Below _ _ _;rw[<-zA];exact th
 have JI:z (A w)+3<=b:=by omega
 have hb1:b<z (A w1):=W.lt;have la:=ae (ZP.i.k (B1.i.P (by omega)));clear W th hb;have JL:Hid (Env w1 b u x (f p).h (f p).u):=⟨HI.i.aa la.i ly,DQ.i.aa la.i JN,ro.i.aa la.i ly,by omega,by omega,by omega⟩
 go_wp2_with fail;refine(qD b u x (f p).h o (f p).u m0 H0 ⟨ZA,0,⟨#[]⟩⟩ _ Fd.i JL.i rfl sm JK.i JX.i).P ?_;rintro e w2⟨Z8,rfl,DE,JM,JR⟩;have qr:=ae DE;have JZ:=ae JM;have B2:=ae (B1.i.k (JR.aa JI (by have:=B1.i.size;omega)));clear DE JM JR Fd JL;simp only[Turn.v];have JJ:=ae (qr.i.al (N #[ZF Z8.t.L,J I Z8.t.M,U Z8.t.H,ZF Z8.t.ask,U Z8.t.e,J I Z8.t.j] 138));have ZN:=ae (E7 w2 Z8.t 138);have B3:=ae (B2.i.alloc (by have:=B2.i.size;omega) (N #[ZF Z8.t.L,J I Z8.t.M,U Z8.t.H,ZF Z8.t.ask,U Z8.t.e,J I Z8.t.j] 138));have d5:=(B3.i.O (p:=(Q (z (A w)+1) 5 Z)) (show (z (A w))+1<z (A w)+3 by omega)).k ex;have JS:z (A w)+3<=z (A w2):=by have:=B2.i.size;omega
 have Kc:b<z (A w2):=qr.i.lt;go_wp2;clear d5 qr B2;generalize World.alloc w2 _=W3 at JJ ZN B3 ⊢;generalize (z (A w2))=g7 at ZN JS Kc ⊢;go_loopw [19] (λi wr=>∃(k:Nat) (r:Mst) (H:Halt),k<=(f p).f/\i=J I k/\Hid (MAt wr b (Y (T (Q u x Z)) (f p).h o) r)/\Hid (TurnBox wr g7 r.t)/\Hid (fh r H)/\Hid (gP k H)/\Hid (∀n,k<=n->eC (f p).u (f p).h (yOf f p) n H=cA (f p).u (f p).h (yOf f p) n 2001 0 0 0 [])/\Hid (eF f p ((f p).f - k) k=bD f p)/\Hid (Below (z (A w)+3) WA wr)) (λi _=>(f p).f - (intOf i).toNat);case atStart=>exact⟨0,Z8,H0,by omega,rfl,JJ.i,ZN.i,JZ.i,Kd.i,λn _=>JY.i (yOf f p) n,rfl,B3.i⟩
 case round =>
  obtain⟨k,r,H,hkN,rfl,HM,TB,HS,HL,HC,ld,BW⟩:=hrel;have V:=ae (ZP.i.k (BW.i.P (by omega)));have bt:Hid (r.t=bB f p k):=by show _=_;rw[<-oP (f:=(f p).u) (y_:=(f p).h) (y:=yOf f p) HS.i HL.i];exact HC.i k ly
  by_cases ZO:k<(f p).f
  ·obtain⟨bl,offl,rfl,JO⟩:=(J5.i.aa V.i ly).resolve_left (by omega);obtain⟨r0,r1,r2,r3⟩:=JO.2 k ZO;obtain⟨l,hl⟩:∃l,(f p).l k=l:=⟨_,rfl⟩
   rw[hl] at r0 r1 r2 r3;obtain⟨nm,ask,ZR,at_⟩:=l;dsimp only at r0 r1 r2 r3;have ZT:=ae hl;clear JO hl;obtain⟨j0,JQ⟩:∃j0,(f p).f - k=j0+1:=⟨(f p).f - k - 1,by omega⟩
   have ZS:=ae (BW.i.alloc (by have:=BW.i.size;omega) (N #[U nm,ZF ask,ZF ZR,J I at_] 74));have TL:=ae (TB.i.aa ((BS wr).alloc ly (N #[U nm,ZF ask,ZF ZR,J I at_] 74)) TB.i.1);have ML:=ae (HM.i.al (N #[U nm,ZF ask,ZF ZR,J I at_] 74));obtain⟨tl,⟨t0,t1,t2,t3,t4,t5⟩,tz⟩:=TL.i;clear tz;have WY:(eA f p k=ZH/\(r.t.L=ZH\/r.t.L=ZA/\((r.t.e.toList == nm.toList)=ZA\/(r.t.e.toList == nm.toList)=ZH/\(r.t.ask=ZH/\ask=ZA\/r.t.ask=ZA/\ask=ZH))))\/(eA f p k=ZA/\r.t.L=ZA/\(r.t.e.toList == nm.toList)=ZH/\r.t.ask=ask):=by unfold eA;rw[<-bt.i,ZT.i];cases r.t.L<;>cases (r.t.e.toList == nm.toList)<;>cases r.t.ask<;>cases ask<;>simp
   rcases WY with⟨ZZ,WY⟩|⟨ZZ,M,hn,D⟩
   ·replace ZZ:=ae ZZ;have G:Hid (P=k):=by show _=_;rw[ZQ.i,<-ld.i,JQ,vi ZZ.i]
    have mv:Hid (R=r.t):=by show _=_;rw[Bk.i,<-ZQ.i,G.i,bt.i]
    have d5:=(ZS.i.O (p:=(Q (z (A w)+1) 5 Z)) (show (z (A w))+1<z (A w)+3 by omega)).k ex;have CW:=ae (ZP.i.k (ZS.i.P (by omega)));have SX:=ae (XA.i.aa ZS.i (by omega));have hx:=SX.i.1;obtain⟨⟨v0,q0,y0⟩,⟨v1,q1,y1⟩,⟨v2,q2,y2⟩,⟨v3,q3,y3⟩,⟨v4,q4,y4⟩,⟨v5,q5,y5⟩⟩:=bl6 SX.i.2;rcases WY with M|⟨M,hn|⟨hn,⟨D,rfl⟩|⟨D,rfl⟩⟩⟩
    all_goals
     rw[M] at t0
     (try rw[D] at t3)
     go_wp2_with fail;go_region;all_goals
      go_wp2;exact bp (v:=.tuple #[R.v,J I (((f p).f:Int) - (P:Int))]) (by rw[mv.i,G.i];first|simp[results,results120,go_sem,Turn.v,M,D,q0,q1,q2,q3,q4,q5]|simp[results,results120,go_sem,Turn.v,M,q0,q1,q2,q3,q4,q5]) rfl ⟨rfl,(fX CW.i (by omega) _ _ _ _ _ _).drew⟩
   ·replace ZZ:=ae ZZ;rw[M] at t0;rw[D] at t3;obtain⟨a,J7,s2,pp,st,l,rfl⟩:=oQ HS.i M;have el:l=k+1:=HL.i;subst el;have Id:=(ZS.i.O (p:=(Q (z (A w)) 0 Z)) (show (z (A w))<z (A w)+3 by omega)).k kA;have CW:=ae (ZP.i.k (ZS.i.P (by omega)));have HY:Hid (eJ f ⟨nm,ask,ZR,at_⟩=yOf f p k):=by show _=_;unfold yOf;rw[ZT.i]
    have J9:=ae (yg (l:=⟨nm,ask,ZR,at_⟩) K.i (λS=>by have:=n9.i k ZO (by rw[ZT.i];exact S);rw[ZT.i] at this;exact this.2));have J4:Hid ((eJ f ⟨nm,ask,ZR,at_⟩).H.size<=2000):=by have:=J9.i;simp only[cI,nD] at this;exact this.1
    have JU:Hid (ask=ZH->0<=at_/\at_.toNat<n):=λS=>by have:=n9.i k ZO (by rw[ZT.i];exact S);rw[ZT.i] at this;exact this
    cases ask
    all_goals
     go_wp2_with fail;clear t0 t1 t2 t3 t4 t5 r0 r1 r2 r3;generalize World.alloc wr _=WL at ZS TL ML CW Id tl ⊢;first|(guard_hyp D:r.t.ask=ZH;refine(oR Z9 q n j_ f ⟨nm,ZH,ZR,at_⟩ _ K.i (ZM.i.aa CW.i ly) (λ_=>JU.i (by simp))).P ?_)|refine(oR Z9 q n j_ f ⟨nm,ZA,ZR,at_⟩ _ K.i (ZM.i.aa CW.i ly) (λh=>by cases h)).P ?_
     rintro e w4⟨rfl,O⟩;have J0:b<z (A WL):=ML.i.lt;have M4:=ae (ML.i.aa O J0);have T4:=ae (TL.i.aa O tl);have B4:=ae (ZS.i.k (O.P (by have:=ZS.i.size;omega)));have n8:=ae (ZP.i.k (B4.i.P (by omega)));have JV:Hid (Env w4 b u x (f p).h (f p).u):=⟨HI.i.aa n8.i ly,DQ.i.aa n8.i JN,ro.i.aa n8.i ly,by omega,by omega,by omega⟩
     clear O Id;go_wp2_with fail;refine(sL b u x (f p).h o (f p).u r a J7 s2 pp st (k+1) _ _ M4.i JV.i HS.i (by omega) J4.i sm JK.i).P ?_;rintro e w5⟨m2,H2,rfl,Fk,At,JP,Fm,aq⟩;have GS:g7≠b:=by omega
     have T5:=ae (T4.i.ac aq GS);have M5:=ae (Fk.boxed GS m2.t);have X5:=ae (Hk m2.t T5.i);have B5:=ae (B4.i.k (aq.aa JI (by have:=B4.i.size;omega)));have B6:=ae (B5.i.k ((vf (w:=w5) (g:=g7) m2.t).aa JS (by have:=B5.i.size;omega)));have Ka:=ae At;have J6:=ae JP;have JW:Hid (∀n,k+1<=n->eC (f p).u (f p).h (yOf f p) n H2=cA (f p).u (f p).h (yOf f p) n 2001 0 0 0 []):=λn hn=>(Fm (yOf f p) n hn (by rw[QS];exact HY.i.c)).c.k (HC.i n (by omega));have Kb:Hid (eF f p ((f p).f - (k+1)) (k+1)=bD f p):=by show _=_;rw[<-ld.i,JQ,vh ZZ.i,show(f p).f - (k+1)=j0 by omega]
     obtain⟨ul,⟨u0,u1,u2,u3,u4,u5⟩,uz⟩:=T5.i;obtain⟨z0,z1,z2,z3,z4,z5⟩:=al6 uz;clear Fk At JP Fm aq M4 T4 uz;simp only[Turn.v];go_wp2;exact⟨⟨k+1,m2,H2,by omega,by go_num,M5.i,X5.i,Ka.i,J6.i,JW.i,Kb.i,B6.i⟩,by simp[intOf];omega⟩
  ·obtain rfl:k=(f p).f:=by omega
   have G:Hid (P=(f p).f):=by show _=_;rw[ZQ.i,<-ld.i,UV];rfl
   have mv:Hid (R=r.t):=by show _=_;rw[Bk.i,<-ZQ.i,G.i,bt.i]
   obtain⟨tl,⟨t0,t1,t2,t3,t4,t5⟩,tz⟩:=TB.i;have SX:=ae (XA.i.aa BW.i (by omega));have hx:=SX.i.1;obtain⟨⟨v0,q0,y0⟩,⟨v1,q1,y1⟩,⟨v2,q2,y2⟩,⟨v3,q3,y3⟩,⟨v4,q4,y4⟩,⟨v5,q5,y5⟩⟩:=bl6 SX.i.2;clear tz;go_wp2;exact bp (v:=.tuple #[R.v,J I (((f p).f:Int) - (P:Int))]) (by rw[mv.i,G.i];simp[results,results120,go_sem,Turn.v,q0,q1,q2,q3,q4,q5]) rfl ⟨rfl,by first|exact fX V.i (by omega) _ _ _ _ _ _|exact fX V.i.drew (by omega) _ _ _ _ _ _⟩
def jS (f:Nat->au)(p:Nat):Bool:=if (f p).m=3 then (!(bB f p (bD f p)).L || decide (bD f p<(f p).f)) else ZA
def py (f:Nat->au)(p:Nat):Bool:=if (f p).m=3 then (!decide ((bB f p (bD f p)).M=(f p).M) || !((bB f p (bD f p)).H.toList == (f p).H.toList)) else ZA
def Hu (f:Nat->au)(p:Nat):codeF f p=if jS f p=ZH then 4 else if py f p=ZH then 5 else 0:=by
 unfold codeF jS py;by_cases b:(f p).m=3
 ·rw[eT b,eT b,eT b];unfold gB;by_cases h1:bD f p<(f p).f;{simp[h1]}
  ·cases ho:(bB f p (bD f p)).L with
   |false=>simp[h1]
   |true =>
    by_cases h2:(bB f p (bD f p)).M=(f p).M
    ·by_cases g:(bB f p (bD f p)).H.toList=(f p).H.toList;{simp[h1,h2,g]}
     ·have h:((bB f p (bD f p)).H.toList == (f p).H.toList)=ZA:=by simpa using g
      simp[h1,h2,g,h]
    {simp[h1,h2]}
 {rw[eI b,eI b,eI b];simp}
def nM{f:Nat->Ins}(h:SlIns w a n f)(j:valid f n=ZH):∃i g,a=T (Q i g Z)/\Q_ w i g n f:=by
 have hn:=(bJ j).2;rcases h with h|⟨b,off,e,l⟩
 {omega};{exact⟨b,off,e,l⟩}
def xq (M:O_)(L ZQ:Nat)(D:O_)(ZT G:Nat)(C b n j_:Nat)(f:Nat->au)(p:Nat)(a0:O_)(l:Nat)(a1:O_)(i:Nat)(w:E)(j:bc f n=ZH)(hp:p<n)(x:Qk w C b n f)(hI:SlIns w a0 (f p).h (f p).u)(ZS:SlLink w a1 (f p).f (f p).l)(s:Tab2 w)(u:Pow w):Calls Pg 78 #[ZJ #[Y (T (Q C b Z)) n j_,Y M L ZQ,Y D ZT G],ZJ #[U (f p).e,J I (f p).m,J I (f p).M,U (f p).H,Y a0 (f p).h l,Y a1 (f p).f i]] w λe w'=>e=ZI (ZF (jS f p))/\Below (z (A w)) w w':=by
 obtain⟨r,P⟩:∃r,r=jS f p:=⟨_,rfl⟩
 rw[<-P];have R:=ae (show r=if (f p).m=3 then (!(bB f p (bD f p)).L || decide (bD f p<(f p).f)) else ZA from P);clear P;have Z9:=ae (((BS w).alloc ly (N #[Y (T (Q C b Z)) n j_,Y M L ZQ,Y D ZT G] 129)).alloc (by simp) (N #[U (f p).e,J I (f p).m,J I (f p).M,U (f p).H,Y a0 (f p).h l,Y a1 (f p).f i] 58));have O:=ae x;have ZN:=ae hI;have ZM:=ae ZS;have ZL:=ae s;have S:=ae u;have ZO:=s.1;clear x hI ZS s u;by_cases m:(f p).m=3
 ·have Z8:valid (f p).u (f p).h=ZH:=by
   rcases(ed j p hp).2 with h|h|h;{omega};{omega};{exact h.2.2.2.1}
  obtain⟨pb,po,rfl,ZR⟩:=nM ZN.i Z8;have V:=ae ZR;have HK:=ae m;have o:Hid (r=(!(bB f p (bD f p)).L || decide (bD f p<(f p).f))):=by show _=_;rw[R.i,eT m]
  have H:=px f p (f p).f 0;have K:Hid (bD f p<=(f p).f):=by show eF f p (f p).f 0<=_;omega
  have ZP:=ae j;rw[m] at Z9;clear ZR Z8 ZN j H R;have ZZ:=λW (g:Below (z (A w)) w W)=>qE C b n j_ f p pb po l a1 i W ZP.i hp HK.i (O.i.aa g ly) (V.i.aa g ly) (ZM.i.aa g ly) (ZL.i.aa g ZO) (S.i.aa g ly);generalize bB f p (bD f p)=t at o ZZ;generalize bD f p=q at o ZZ K;rw[m] at ZZ;have aq:=ae ZZ;clear ZZ;rw[m];go_enter func78,ntmps78;go_wp2_with fail;refine(aq.i _ Z9.i).P ?_;rintro e w1⟨rfl,g⟩;have B1:=ae (Z9.i.k (g.P Z9.i.size));have y:=ae (B1.i.alloc B1.i.size (N #[ZF t.L,J I t.M,U t.H,ZF t.ask,U t.e,J I t.j] 138));have H:=K.i;clear g;simp only[Turn.v];cases ho:t.L with
  |false =>
   obtain rfl:r=ZH:=by rw[o.i,ho];rfl
   rw[ho] at y;go_wp2;go_ret;exact⟨rfl,y.i⟩
  |true =>
   rw[ho] at y;by_cases X:q<(f p).f
   ·obtain rfl:r=ZH:=by rw[o.i,ho];simp[X]
    have hgt:(0:Int)<((f p).f:Int) - (q:Int):=by omega
    go_wp2;go_ret;exact⟨rfl,y.i⟩
   ·obtain rfl:r=ZA:=by rw[o.i,ho];simp[X]
    have hz:((f p).f:Int) - (q:Int)=0:=by omega
    rw[hz];go_wp2;go_ret;exact⟨rfl,y.i⟩
 ·obtain rfl:r=ZA:=by rw[R.i,eI m]
  go_enter func78,ntmps78;go_wp2;go_ret;exact⟨rfl,Z9.i⟩
def BP (L:O_)(K M:Nat)(ZT:O_)(G H:Nat)(C g n j_:Nat)(f:Nat->au)(p:Nat)(a0:O_)(l:Nat)(a1:O_)(i:Nat)(w:E)(j:bc f n=ZH)(hp:p<n)(y:Qk w C g n f)(ZM:SlIns w a0 (f p).h (f p).u)(ZS:SlLink w a1 (f p).f (f p).l)(u:Tab2 w)(x:Pow w):Calls Pg 79 #[ZJ #[Y (T (Q C g Z)) n j_,Y L K M,Y ZT G H],ZJ #[U (f p).e,J I (f p).m,J I (f p).M,U (f p).H,Y a0 (f p).h l,Y a1 (f p).f i]] w λe w'=>e=ZI (ZF (py f p))/\Below (z (A w)) w w':=by
 obtain⟨r,O⟩:∃r,r=py f p:=⟨_,rfl⟩
 rw[<-O];have ZP:=ae (show r=if (f p).m=3 then (!decide ((bB f p (bD f p)).M=(f p).M) || !((bB f p (bD f p)).H.toList == (f p).H.toList)) else ZA from O);clear O;have Z9:=ae (((BS w).alloc ly (N #[Y (T (Q C g Z)) n j_,Y L K M,Y ZT G H] 129)).alloc (by simp) (N #[U (f p).e,J I (f p).m,J I (f p).M,U (f p).H,Y a0 (f p).h l,Y a1 (f p).f i] 58));have ZQ:=ae y;have ZN:=ae ZM;have ZL:=ae ZS;have X:=ae u;have S:=ae x;have ZO:=u.1;clear y ZM ZS u x;by_cases o:(f p).m=3
 ·have Z8:valid (f p).u (f p).h=ZH:=by
   rcases(ed j p hp).2 with h|h|h;{omega};{omega};{exact h.2.2.2.1}
  obtain⟨pb,po,rfl,ZR⟩:=nM ZN.i Z8;have V:=ae ZR;have HK:=ae o;have s:Hid (r=(!decide ((bB f p (bD f p)).M=(f p).M) || !((bB f p (bD f p)).H.toList == (f p).H.toList))):=by show _=_;rw[ZP.i,eT o]
  have P:=ae j;rw[o] at Z9;clear ZR Z8 ZN j ZP;have ZZ:=λW (b:Below (z (A w)) w W)=>qE C g n j_ f p pb po l a1 i W P.i hp HK.i (ZQ.i.aa b ly) (V.i.aa b ly) (ZL.i.aa b ly) (X.i.aa b ZO) (S.i.aa b ly);generalize bB f p (bD f p)=t at s ZZ;generalize bD f p=q at s ZZ;rw[o] at ZZ;have aq:=ae ZZ;clear ZZ;rw[o];go_enter func79,ntmps79;go_wp2_with fail;refine(aq.i _ Z9.i).P ?_;rintro e R⟨rfl,b⟩;have d2:ZW R (Q (z (A w)+1) 2 Z)=T (J I (f p).M):=(b.O (p:=(Q (z (A w)+1) 2 Z)) (by simp)).k (by simp[go_sem]);have d3:ZW R (Q (z (A w)+1) 3 Z)=T (U (f p).H):=(b.O (p:=(Q (z (A w)+1) 3 Z)) (by simp)).k (by simp[go_sem]);have hz1:z (A w)+1<z (A R):=by have:=b.size;simp at this;omega
  have m:=ae (Z9.i.k (b.P Z9.i.size));clear b;simp only[Turn.v];by_cases D:t.M=(f p).M
  ·cases ht:(t.H.toList == (f p).H.toList) with
   |true =>
    obtain rfl:r=ZA:=by rw[s.i];simp[D,ht]
    go_wp2;go_ret;exact⟨rfl,m.i.alloc m.i.size _⟩
   |false =>
    obtain rfl:r=ZH:=by rw[s.i];simp[D,ht]
    go_wp2;go_ret;exact⟨rfl,m.i.alloc m.i.size _⟩
  ·obtain rfl:r=ZH:=by rw[s.i];simp[D]
   have hc2:(t.M == (f p).M)=ZA:=by simpa using D
   go_wp2;go_ret;exact⟨rfl,m.i.alloc m.i.size _⟩
 ·obtain rfl:r=ZA:=by rw[ZP.i,eI o]
  go_enter func79,ntmps79;go_wp2;go_ret;exact⟨rfl,Z9.i⟩
def nN (o b n j_:Nat)(f:Nat->au)(l:Link)(w:E)(i:Qk w o b n f)(s:l.ask=ZH->0<=l.G/\l.G.toNat<n):Calls Pg 83 #[ZJ #[Y (T (Q o b Z)) n j_],ZJ #[U l.e,ZF l.ask,ZF l.has,J I l.G]] w λe w'=>e=ZI (ZJ #[ZF (eJ f l).has,J I (eJ f l).M,U (eJ f l).H])/\Below (z (A w)) w w':=by
 have y:=ae i;have q:=ae s;have j:=ae (show eJ f l=if l.ask=ZH then (if (f l.G.toNat).m=1 then ⟨ZH,0,(f l.G.toNat).H⟩ else if (f l.G.toNat).m=3 then ⟨ZH,(f l.G.toNat).M,(f l.G.toNat).H⟩ else ⟨ZA,0,⟨#[]⟩⟩) else ⟨l.has,0,⟨#[]⟩⟩ from rfl);clear i s;obtain⟨R,hR⟩:∃R,R=eJ f l:=⟨_,rfl⟩
 rw[<-hR] at j ⊢;clear hR;obtain⟨nm,ask,r,at_⟩:=l;dsimp only at q j ⊢;have ZZ:=ae ((((BS w).alloc ly (N #[Y (T (Q o b Z)) n j_] 25)).alloc (by simp) (N #[U nm,ZF ask,ZF r,J I at_] 74)).alloc (by simp;omega) (N #[ZF ZA,J I 0,U ⟨#[]⟩] 141));cases ask with
 |false =>
  obtain rfl:R=⟨r,0,⟨#[]⟩⟩:=by have:=j.i;simpa using this
  dsimp only;go_enter func83,ntmps83;go_wp2
  exact bp (v:=ZJ #[ZF r,J I 0,U ⟨#[]⟩]) (by simp[results,YL,go_sem]) rfl ⟨rfl,by
   repeat (first|exact a8 _ _|refine VG ?_ (by simp<;>omega) _)⟩
 |true =>
  obtain⟨h1,h2⟩:=q.i rfl;obtain⟨p,rfl⟩:=p9 h1;have x:p<n:=by simpa using h2
  have g:=ae (show R=if (f p).m=1 then ⟨ZH,0,(f p).H⟩ else if (f p).m=3 then ⟨ZH,(f p).M,(f p).H⟩ else ⟨ZA,0,⟨#[]⟩⟩ by have:=j.i;simpa using this);clear j;obtain⟨p0,p1,p2,p3,⟨a2,cap2,p4,t⟩,⟨a3,cap3,p5,u⟩⟩:=(y.i.aa ZZ.i ly).2 p x;clear t u q;have hpn:(p:Int)<n:=by omega
  go_enter func83,ntmps83;by_cases h:(f p).m=1
  ·obtain rfl:R=⟨ZH,0,(f p).H⟩:=by rw[g.i,eT h]
   go_wp2
   exact bp (v:=ZJ #[ZF ZH,J I 0,U (f p).H]) (by simp[results,YL,go_sem]) rfl ⟨rfl,by
    repeat (first|exact a8 _ _|refine VG ?_ (by simp<;>omega) _)⟩
  ·by_cases m:(f p).m=3
   ·obtain rfl:R=⟨ZH,(f p).M,(f p).H⟩:=by rw[g.i,eI h,eT m]
    go_wp2
    exact bp (v:=ZJ #[ZF ZH,J I (f p).M,U (f p).H]) (by simp[results,YL,go_sem]) rfl ⟨rfl,by
     repeat (first|exact a8 _ _|refine VG ?_ (by simp<;>omega) _)⟩
   ·obtain rfl:R=⟨ZA,0,⟨#[]⟩⟩:=by rw[g.i,eI h,eI m]
    go_wp2
    exact bp (v:=ZJ #[ZF ZA,J I 0,U ⟨#[]⟩]) (by simp[results,YL,go_sem]) rfl ⟨rfl,by
     repeat (first|exact a8 _ _|refine VG ?_ (by simp<;>omega) _)⟩
