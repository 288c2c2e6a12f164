import Derived.Test.YtpmnbjkjpnclaaaGreatDoorLO
import Derived.Deep.WholeRow
import Derived.Deep.DeepCutAuto
set_option maxRecDepth 1000000
set_option maxHeartbeats 8000000
set_option linter.unusedSimpArgs false
open Go renaming Addr.mk->N,Value.slice->Y,Value.string->U,Value.int->Q,Value.bool->ZC,Value.agg->ZG,Obj.cells->J,IntKind.i64->I,World->M,Value->ZB,TypeId->ZH,Ending.returned->ZD,World.heap->A,World.cell?->z,Proofs.Tryz.prog->Pg
open Option renaming none->Z,some->T
open Bool renaming false->ZA,true->ZF
open Array renaming size->B
namespace Go.Proofs.YtpmnbjkjpnclaaaGreatDoor.Vp
open Tryz RowKit
variable {w u:M}{base g n cap p j b ZR l op:Nat}{e:ZH}{m:Mst}{f:Nat->aj}{s r:List ByteArray}{y:Nat->aB}{x:ByteArray}{H:Halt}{i:List ZB}
theorem Aj (w b:M)(f:Array ZB)(ty:ZH)(ZL:Obj)(j:Nat)(v:ZB)(hz:B (A b)=B (A w))(g:f[j]?=T v):((b.alloc (J f ty)).alloc ZL).cell? (N (B (A w)) j Z)=T v:=by rw[<-hz,((cM (b.alloc (J f ty)).heap.size _).alloc ly ZL).cell (p:=(N (B (A b)) j Z)) (by simp)];simp[g]
def jp (m:Mst)(c:Int):Turn:=⟨ZF,c,m.t.e,ZA,⟨#[]⟩,m.g⟩
theorem yg{f:ZB}(hM:MAt w b f m)(x:Bool)(c:Int)(t:ByteArray):∃W,(((((((w.setCell (N b 55 Z) (ZC ZA)).setCell (N b 56 Z) (Q I 0)).setCell (N b 57 Z) (U ⟨#[]⟩)).setCell (N b 58 Z) (ZC ZA)).setCell (N b 59 Z) (U ⟨#[]⟩)).setCell (N b 60 Z) (Q I 0)).alloc (J #[ZC x,Q I c,U t] 166)).alloc (J #[ZC m.t.ak,Q I m.t.E,U m.t.y,ZC m.t.ask,U m.t.e,Q I m.t.g] 163)=W/\MAt W b f { m with t:=cG }/\Only b w W/\z W (N (B (A w)) 0 Z)=T (ZC x)/\z W (N (B (A w)) 1 Z)=T (Q I c)/\z W (N (B (A w)) 2 Z)=T (U t)/\z W (N (B (A w)+1) 3 Z)=T (ZC m.t.ask)/\z W (N (B (A w)+1) 4 Z)=T (U m.t.e)/\(B (A W))=B (A w)+2 :=
 ⟨_,rfl,((hM.setTurn cG).al _).al _,((Cp (Only.refl b w) cG).al _).al _,Aj w _ _ _ _ _ _ (by simp) rfl,Aj w _ _ _ _ _ _ (by simp) rfl,Aj w _ _ _ _ _ _ (by simp) rfl,jl _ _ _ _ _ _ (by simp) rfl,jl _ _ _ _ _ _ (by simp) rfl,by simp⟩
def lv (m:Mst)(x:Bool)(c:Int)(t:ByteArray):Mst :=
 if m.t.ask=ZA then { m with t:=cG,S:=upd m.S m.size (dN x),size:=m.size+1 } else if x=ZA then { m with t:=jp m 4 } else if (c == 0)=ZA then { m with t:=jp m 5 } else { m with t:=cG,S:=upd m.S m.size t,size:=m.size+1 }
theorem Ak{u:Mst}{x:Bool}{c:Int}{t:ByteArray}(h:u=lv m x c t):(m.t.ask=ZA/\u={ m with t:=cG,S:=upd m.S m.size (dN x),size:=m.size+1 })∨(m.t.ask=ZF/\x=ZA/\u={ m with t:=jp m 4 })∨(m.t.ask=ZF/\x=ZF/\(c == 0)=ZA/\u={ m with t:=jp m 5 })∨(m.t.ask=ZF/\x=ZF/\c=0/\u={ m with t:=cG,S:=upd m.S m.size t,size:=m.size+1 }):=by unfold lv at h;cases ha:m.t.ask<;>cases x<;>cases hc:(c == 0)<;>simp_all
theorem iw (b:Nat)(j:ZB)(m:Mst)(x:Bool)(c:Int)(t:ByteArray)(w:M)(hM:MAt w b j m)(ZM:m.size<50):Calls Pg 274 #[.pointer (T (N b 0 Z)),ZG #[ZC x,Q I c,U t]] w λe w'=>e=ZD (.tuple #[])/\MAt w' b j (lv m x c t)/\Only b w w':=by
 obtain⟨u,s⟩:∃u,u=lv m x c t:=⟨_,rfl⟩
 rw[<-s];have y:=ae (Ak s);clear s;have hlt:=hM.lt;obtain⟨⟨c5,O⟩,⟨P,G⟩,⟨E,H⟩,⟨ZP,ZO⟩,⟨K,L⟩,ZS,ZT⟩:=hM.turn;obtain⟨W,ZR,q,n,q0,q1,q2,ZQ,p4,hz⟩:=yg hM x c t;have C:=ae ZR;have h:=ae q;have l:=ae n;clear hM ZR q n;go_enter func274,ntmps274;go_upto_region 4 with fail;rw[C.out];clear C c5 P E ZP K ZS O G H ZO L ZT;have hz0:B (A w)<B (A W):=by omega
 have hz1:B (A w)+1<B (A W):=by omega
 clear hz;rcases y.out with ⟨i,rfl⟩|⟨i,rfl,rfl⟩|⟨i,rfl,hc,rfl⟩|⟨i,rfl,rfl,rfl⟩
 all_goals
  rw[i] at ZQ;clear y;go_wp2_with (go_at_call 296;refine(jv b j { m with t:=cG } _ _ _ h).mono ?_;rintro e r ⟨rfl,g,f⟩;have o:=ae g;have p:Hid (Only b w r):=l.trans f;clear g f)
  (try go_region_with (first|(go_at_call 249;refine(kY _ _).mono ?_;rintro e w1 ⟨rfl,D⟩;subst D)|(go_at_call 295;refine(oS b j { m with t:=cG } _ _ ?_ ZM).mono ?_;(first|exact h|exact h.drew|exact h.drew.drew);rintro e r ⟨rfl,g,f⟩;have o:=ae g;have p:Hid (Only b w r):=Only.trans (by repeat (first|exact l|apply Only.drew)) f;clear g f)))
  all_goals
   (try go_wp2)
   refine kK rfl rfl ?_;exact⟨rfl,o,p⟩
theorem wN (b:Nat)(f:ZB)(m:Mst)(x:Bool)(c:Int)(t:ByteArray)(w:M)(hM:MAt w b f m)(i:m.t.ask=ZA)(g:m.size<50):Calls Pg 274 #[.pointer (T (N b 0 Z)),ZG #[ZC x,Q I c,U t]] w λe w'=>e=ZD (.tuple #[])/\MAt w' b f { m with t:=cG,S:=upd m.S m.size (dN x),size:=m.size+1 }/\Only b w w':=by have h:=iw b f m x c t w hM g;rwa[lv,nL i] at h
theorem wO (b:Nat)(f:ZB)(m:Mst)(t:ByteArray)(w:M)(hM:MAt w b f m)(i:m.t.ask=ZF)(g:m.size<50):Calls Pg 274 #[.pointer (T (N b 0 Z)),ZG #[ZC ZF,Q I 0,U t]] w λe w'=>e=ZD (.tuple #[])/\MAt w' b f { m with t:=cG,S:=upd m.S m.size t,size:=m.size+1 }/\Only b w w':=by have h:=iw b f m ZF 0 t w hM g;rwa[lv,eT (by simp[i]),eT (by simp),eT (by simp)] at h
theorem pj (b:Nat)(f:ZB)(m:Mst)(c:Int)(t:ByteArray)(w:M)(hM:MAt w b f m)(i:m.t.ask=ZF)(g:m.size<50):Calls Pg 274 #[.pointer (T (N b 0 Z)),ZG #[ZC ZA,Q I c,U t]] w λe w'=>e=ZD (.tuple #[])/\MAt w' b f { m with t:=jp m 4 }/\Only b w w':=by have h:=iw b f m ZA c t w hM g;rwa[lv,eT (by simp[i]),nL rfl] at h
theorem sI (b:Nat)(f:ZB)(m:Mst)(c:Int)(t:ByteArray)(w:M)(hM:MAt w b f m)(i:m.t.ask=ZF)(j:(c == 0)=ZA)(g:m.size<50):Calls Pg 274 #[.pointer (T (N b 0 Z)),ZG #[ZC ZF,Q I c,U t]] w λe w'=>e=ZD (.tuple #[])/\MAt w' b f { m with t:=jp m 5 }/\Only b w w':=by have h:=iw b f m ZF c t w hM g;rwa[lv,eT (by simp[i]),eT (by simp),nL j] at h
def m0:Mst:={ S:=λ_=>⟨#[]⟩,size:=0,aq:=0,g:=0,looks:=0,t:=cG }
def fq (b:ZB):Array ZB:=(Array.range 61).map (m0.F b)
theorem EF (a:Option Addr)(n cap:Nat):Pg.built 345 [(1,Y a n cap)]=T (fq (Y a n cap)):=by kernel_rfl
theorem infoM:(Pg.info? 345).map (·.size)=T 61:=by kernel_rfl
theorem oD (b:ZB):(fq b).size=61:=by simp[fq]
theorem Al (b:ZB)(j:Nat)(h:j<61):(fq b)[j]?=T (m0.F b j):=by simp[fq,h]
theorem yi (a:Option Addr)(n cap:Nat):(fq (Y a n cap)).all (·.oneCell')=ZF:=by kernel_rfl
theorem Am (w:M)(a:Option Addr)(n cap:Nat):MAt (w.alloc (J (fq (Y a n cap)) 345)) (B (A w)) (Y a n cap) m0:=by
 refine⟨by simp,λj b=>⟨?_,?_⟩⟩;{rw[World.cell?_alloc_new];exact Al _ j b};{simp}
theorem An{P:Program}{f:Array Oper}{rest:List Oper}{o:Oper}{a:Act}{ZN:Exit->Act->M->Prop}(j:o.guard=Z)(t:ZH)(b:Array (Nat × Operand))(m:o.op=.build t b)
  (l:List (Nat × ZB)) (cells:Array ZB) (g:(b.map λ(i,x)=>(i,a.eval x)).toList=l) (hb:P.built t l=T cells) (h:wpList P f ZN rest (a.put o.dst (ZG cells)) w):wpList P f ZN (o::rest) a w:=by
 refine wpList_build j t b m (by rw[g,hb];rfl) ?_;rw[g,hb];exact h
theorem Pow.lt (h:Pow w):2<B (A w):=by
 have f:=NO gPow h 0;rcases J7 2 (B (A w)) with b|b;{exact b};{simp[World.cell?,LA b,Lib.pow10Tab] at f}
theorem Sim.push{st:Nat}(b:Sim m p st l s)(x:ByteArray)(f:x.size<=2000)(hl:s.length<50):Sim { m with t:=cG,S:=upd m.S m.size x,size:=m.size+1 } p st l (x::s) :=
 ⟨by rw[b.size];exact b.rep.push x,by simp[b.size],by simp;omega,b.hpl,b.hst,b.hlk,λZT hz=>by
  rcases BO.1 hz with rfl|hz
  ·exact f
  ·exact b.le ZT hz,b.pl,b.st,b.lk⟩
theorem ix (b:Bool):(dN b).size<=2000:=by cases b<;>decide
def Six (w:M)(g:Nat):Prop:=g<B (A w)/\∀j,j<6->∃v,z w (N g j Z)=T v/\w.frozen? (N g j Z)=ZA
theorem Six.aa{i:M}(h:Six w g)(b:Below ZR w i)(f:g<ZR):Six i g:=⟨lj h.1 b.size,λj l=>by
 obtain⟨v,h1,h2⟩:=h.2 j l
 exact⟨v,(b.cell (p:=(N g j Z)) f).trans h1,(b.frozen (p:=(N g j Z)) f).trans h2⟩⟩
theorem Six.ac{l:M}(h:Six w g)(f:Only b w l)(i:g≠b):Six l g:=⟨lj h.1 f.size,λj m=>by
 obtain⟨v,h1,h2⟩:=h.2 j m
 exact⟨v,(f.cell g j h.1 i).trans h1,(f.frozen g j h.1 i).trans h2⟩⟩
theorem lW (w:M)(v0 v1 v2 v3 v4 v5:ZB)(t:ZH):Six (w.alloc (J #[v0,v1,v2,v3,v4,v5] t)) (B (A w)):=⟨by simp,λj hj=>by
 rcases(show j=0∨j=1∨j=2∨j=3∨j=4∨j=5 by omega) with rfl|rfl|rfl|rfl|rfl|rfl
 all_goals exact⟨_,by simp;rfl,by simp⟩⟩
theorem iE (h:Below ZR u w)(b:ZR<=g)(v0 v1 v2 v3 v4 v5:ZB):Below ZR u ((((((w.setCell (N g 0 Z) v0).setCell (N g 1 Z) v1).setCell (N g 2 Z) v2).setCell (N g 3 Z) v3).setCell (N g 4 Z) v4).setCell (N g 5 Z) v5) :=
 (((((h.setCell b v0).setCell b v1).setCell b v2).setCell b v3).setCell b v4).setCell b v5
def Goes (f:Nat->Ins)(cnt:Nat)(m:Mst)(H:Halt):Prop:=(m.t=cG/\∃p k l s,Sim m p k l s/\jX f cnt (2001 - k) p k l s=T H)∨eB m H
def badT:Turn:=⟨ZA,9,⟨#[]⟩,ZA,⟨#[]⟩,0⟩
def lX (f:Nat->Ins)(cnt:Nat)(y:Nat->aB)(n:Nat):Turn:=if valid f cnt=ZA then badT else if 200<n then badT else if bE y n=ZA then badT else bT f cnt y n 2001 0 0 0 []
theorem sJ{f:Nat->Ins}{cnt:Nat}{st:Nat}(g:m.t=cG)(b:Sim m p st l s):∃H,Goes f cnt m H/\gn l H/\∀y n,dS f cnt y n H=bT f cnt y n (2001 - st) p st l s:=by obtain⟨H,hH⟩:=qa f cnt (2001 - st) p st l s b.st (by have:=b.st;omega);exact⟨H,.inl ⟨g,p,st,l,s,b,hH⟩,(nd f cnt (λ_=>⟨ZA,0,⟨#[]⟩⟩) 0 _ p st l s H b.st rfl hH).2,λy n=>(nd f cnt y n _ p st l s H b.st rfl hH).1.symm⟩
theorem ui (b:Nat)(q:ZB)(f:Nat->Ins)(cnt:Nat)(m:Mst)(a:Bool)(nm:ByteArray)(s:List ByteArray)(p st l:Nat)(r:aB)(w:M)(hM:MAt w b q m)(G:eB m (.inr (a,nm,s,p,st,l)))(hl:1<=l)(ZP:r.y.size<=2000):Calls Pg 274 #[.pointer (T (N b 0 Z)),ZG #[ZC r.has,Q I r.E,U r.y]] w λe w'=>e=ZD (.tuple #[])/\∃H i,MAt w' b q H/\Goes f cnt H i/\gn l i/\(∀y n,l<=n->y (l - 1)=r->dS f cnt y n (.inr (a,nm,s,p,st,l))=dS f cnt y n i)/\Only b w w':=by
 obtain⟨E,u,hnm,C⟩:=G;have x:m.t.ask=a:=by rw[E]
 have ZT:m.t.e=nm:=by rw[E]
 have hz:m.size<50:=by rw[u.size];exact C
 cases a with
 |false =>refine(wN b q m r.has r.E r.y w hM x hz).mono ?_;rintro e w' ⟨rfl,g,j⟩;obtain⟨i,ZS,ZR,D⟩:=sJ (f:=f) (cnt:=cnt) (m:={ m with t:=cG,S:=upd m.S m.size (dN r.has),size:=m.size+1 }) rfl (u.push (dN r.has) (ix _) C);refine⟨rfl,_,i,g,ZS,ZR,λy n hn h=>?_,j⟩;rw[D y n];simp only[dS,h];rw[eT (by omega),nL trivial]
 |true =>
  by_cases h1:r.has=ZA;{rw[h1];refine(pj b q m r.E r.y w hM x hz).mono ?_;rintro e w' ⟨rfl,g,j⟩;refine⟨rfl,_,.inl (4,nm,st),g,.inr ?_,trivial,λy n hn h=>?_,j⟩;{show jp m 4=_;simp only[jp,ZT,u.hst]};{simp only[dS,h];rw[eT (by omega)];simp[h1]}}
  ·have o:r.has=ZF:=by simpa using h1
   by_cases h2:r.E=0;{rw[o,h2];refine(wO b q m r.y w hM x hz).mono ?_;rintro e w' ⟨rfl,g,j⟩;obtain⟨i,ZS,ZR,D⟩:=sJ (f:=f) (cnt:=cnt) (m:={ m with t:=cG,S:=upd m.S m.size r.y,size:=m.size+1 }) rfl (u.push r.y ZP C);refine⟨rfl,_,i,g,ZS,ZR,λy n hn h=>?_,j⟩;rw[D y n];simp only[dS,h];rw[eT (by omega)];simp[o,h2]};{rw[o];refine(sI b q m r.E r.y w hM x (by simpa using h2) hz).mono ?_;rintro e w' ⟨rfl,g,j⟩;refine⟨rfl,_,.inl (5,nm,st),g,.inr ?_,trivial,λy n hn h=>?_,j⟩;{show jp m 5=_;simp only[jp,ZT,u.hst]};{simp only[dS,h];rw[eT (by omega)];simp[o,h2]}}
theorem wP (b n o cnt cap:Nat)(f:Nat->Ins)(m:Mst)(H:Halt)(r:aB)(w:M)(hM:MAt w b (Y (T (N n o Z)) cnt cap) m)(ZS:Env w b n o cnt f)(hn:m.t.e=⟨#[]⟩)(ZL:cnt<=200)(ZP:cX f cnt=ZF)(D:Goes f cnt m H):Calls Pg 273 #[ZG #[ZC r.has,Q I r.E,U r.y],.pointer (T (N b 0 Z))] w λe w'=>∃x,e=ZD x.t.v/\MAt w' b (Y (T (N n o Z)) cnt cap) x/\eB x H/\Only b w w':=by
 have E:=hM.lt;have i:=ae ((hM.al (J #[ZC r.has,Q I r.E,U r.y] 166)).al (J #[ZC ZA,Q I 0,U ⟨#[]⟩,ZC ZA,U ⟨#[]⟩,Q I 0] 163));have j:=ae (((Only.refl b w).al (J #[ZC r.has,Q I r.E,U r.y] 166)).al (J #[ZC ZA,Q I 0,U ⟨#[]⟩,ZC ZA,U ⟨#[]⟩,Q I 0] 163));have l:=lW (w.alloc (J #[ZC r.has,Q I r.E,U r.y] 166)) (ZC ZA) (Q I 0) (U ⟨#[]⟩) (ZC ZA) (U ⟨#[]⟩) (Q I 0) 163;rw[show(w.alloc (J #[ZC r.has,Q I r.E,U r.y] 166)).heap.size=B (A w)+1 by simp] at l;have ZO:=ae l;have HE:=ae ZS;have HG:=ae D;obtain⟨⟨c5,z5⟩,⟨c6,R⟩,⟨ZQ,V⟩,⟨W,X⟩,⟨C,z9⟩,ZR,y⟩:=i.turn;rw[hn] at C;clear hM ZS D l c5 z5 c6 R ZQ V W X z9 ZR y;go_enter func273,ntmps273;go_wp2_with fail;clear C;generalize World.alloc (World.alloc w _) _=P at i j ZO ⊢;have hb0:b<B (A P):=i.lt;refine(uX b n o cnt cap f m H _ i (HE.ac E j) ZL ZP HG).mono ?_;rintro e S ⟨g,rfl,u,s,p⟩;have q:=ae p;clear p;have K:=ae (ZO.ac q (by omega));have hx3:B (A w)+1<B (A S):=K.1;have L:=ae u;have G:=ae s;have ZT:=ae (j.trans q);clear u s;obtain⟨⟨v0,ZJ,y0⟩,⟨v1,ZI,y1⟩,⟨v2,ZM,y2⟩,⟨v3,O,y3⟩,⟨v4,ZN,y4⟩,⟨v5,q5,y5⟩⟩:=bl6 K.2;have h:B (A w)+1≠b:=by omega
 have ZK:=ae ((((((L.other (B (A w)+1) 0 (ZC g.t.ak) h).other (B (A w)+1) 1 (Q I g.t.E) h).other (B (A w)+1) 2 (U g.t.y) h).other (B (A w)+1) 3 (ZC g.t.ask) h).other (B (A w)+1) 4 (U g.t.e) h).other (B (A w)+1) 5 (Q I g.t.g) h);have OO:=ae ((((((ZT.L (B (A w)+1) 0 (ZC g.t.ak) (by omega)).L (B (A w)+1) 1 (Q I g.t.E) (by omega)).L (B (A w)+1) 2 (U g.t.y) (by omega)).L (B (A w)+1) 3 (ZC g.t.ask) (by omega)).L (B (A w)+1) 4 (U g.t.e) (by omega)).L (B (A w)+1) 5 (Q I g.t.g) (by omega));simp only[Turn.v];go_wp2;exact bp (v:=g.t.v) (by simp[results,results273,go_sem,Turn.v,ZJ,ZI,ZM,O,ZN,q5]) rfl ⟨g,rfl,ZK,G,OO⟩
theorem qb (b u ZT cnt cap:Nat)(f:Nat->Ins)(m:Mst)(a:Bool)(nm:ByteArray)(s:List ByteArray)(p st l:Nat)(r:aB)(w:M)(hM:MAt w b (Y (T (N u ZT Z)) cnt cap) m)(P:Env w b u ZT cnt f)(ZS:eB m (.inr (a,nm,s,p,st,l)))(hl:1<=l)(hr:r.y.size<=2000)(hc:cnt<=200)(bt:cX f cnt=ZF):Calls Pg 273 #[ZG #[ZC r.has,Q I r.E,U r.y],.pointer (T (N b 0 Z))] w λe w'=>∃ZM o,e=ZD ZM.t.v/\MAt w' b (Y (T (N u ZT Z)) cnt cap) ZM/\eB ZM o/\gn l o/\(∀y n,l<=n->y (l - 1)=r->dS f cnt y n (.inr (a,nm,s,p,st,l))=dS f cnt y n o)/\Only b w w':=by
 have X:=hM.lt;have j:=ae ((hM.al (J #[ZC r.has,Q I r.E,U r.y] 166)).al (J #[ZC ZA,Q I 0,U ⟨#[]⟩,ZC ZA,U ⟨#[]⟩,Q I 0] 163));have x:=ae (((Only.refl b w).al (J #[ZC r.has,Q I r.E,U r.y] 166)).al (J #[ZC ZA,Q I 0,U ⟨#[]⟩,ZC ZA,U ⟨#[]⟩,Q I 0] 163));have q:=lW (w.alloc (J #[ZC r.has,Q I r.E,U r.y] 166)) (ZC ZA) (Q I 0) (U ⟨#[]⟩) (ZC ZA) (U ⟨#[]⟩) (Q I 0) 163;rw[show(w.alloc (J #[ZC r.has,Q I r.E,U r.y] 166)).heap.size=B (A w)+1 by simp] at q;have X0:=ae q;have HE:=ae P;have HS:=ae ZS;have E:m.t.e=nm:=by have:=ZS.1;rw[this]
 have i:nm.toList.isEmpty=ZA:=by
  have hn:=ZS.2.2.1;have h0:¬ nm.size=0:=by simp only[aA,p6,xT] at hn;omega
  have:=kI h0;cases h:nm.toList with
  |nil=>exact absurd h this
  |cons _ _=>rfl
 obtain⟨⟨c5,z5⟩,⟨c6,z6⟩,⟨c7,z7⟩,⟨c8,z8⟩,⟨ZN,z9⟩,aq,W⟩:=j.turn;rw[E] at ZN;clear hM P ZS q E c5 z5 c6 z6 c7 z7 c8 z8 z9 aq W;go_enter func273,ntmps273;go_wp2_with fail;clear ZN i;generalize World.alloc (World.alloc w _) _=W0 at j x X0 ⊢;have hb0:b<B (A W0):=j.lt;refine(ui b (Y (T (N u ZT Z)) cnt cap) f cnt m a nm s p st l r _ j HS hl hr).mono ?_;rintro e w1 ⟨rfl,m1,o,K,ZQ,ZO,D,L⟩;have O:=ae K;have V:=ae ZQ;have ZL:=ae ZO;have ZJ:=ae D;have G:=ae L;clear K ZQ ZO D L;go_wp2_with fail;refine(uX b u ZT cnt cap f m1 o _ O (HE.ac X (x.trans G)) hc bt V).mono ?_;rintro e w3 ⟨g,rfl,H,C,ZP⟩;have ZR:=ae (G.trans ZP);clear ZP;have R:=ae (X0.ac ZR (by omega));have hx3:B (A w)+1<B (A w3):=R.1;have S:=ae H;have ZI:=ae C;have ZK:=ae (x.trans ZR);clear H C;obtain⟨⟨v0,q0,y0⟩,⟨v1,q1,y1⟩,⟨v2,q2,y2⟩,⟨v3,q3,y3⟩,⟨v4,q4,y4⟩,⟨v5,q5,y5⟩⟩:=bl6 R.2;have i:B (A w)+1≠b:=by omega
 have MM:=ae ((((((S.other (B (A w)+1) 0 (ZC g.t.ak) i).other (B (A w)+1) 1 (Q I g.t.E) i).other (B (A w)+1) 2 (U g.t.y) i).other (B (A w)+1) 3 (ZC g.t.ask) i).other (B (A w)+1) 4 (U g.t.e) i).other (B (A w)+1) 5 (Q I g.t.g) i);have OO:=ae ((((((ZK.L (B (A w)+1) 0 (ZC g.t.ak) (by omega)).L (B (A w)+1) 1 (Q I g.t.E) (by omega)).L (B (A w)+1) 2 (U g.t.y) (by omega)).L (B (A w)+1) 3 (ZC g.t.ask) (by omega)).L (B (A w)+1) 4 (U g.t.e) (by omega)).L (B (A w)+1) 5 (Q I g.t.g) (by omega));simp only[Turn.v];go_wp2;exact bp (v:=g.t.v) (by simp[results,results273,go_sem,Turn.v,q0,q1,q2,q3,q4,q5]) rfl ⟨g,o,rfl,MM,ZI,ZL,ZJ,OO⟩
theorem uj{f:Nat->Ins}{cnt i:Nat}(b:eB m H)(hL:gn i H):dS f cnt y i H=m.t:=by
 rcases H with ⟨c,x,k⟩|⟨a,nm,s,p,k,l⟩
 {exact(show m.t=⟨ZF,c,x,ZA,⟨#[]⟩,k⟩ from b).symm};{have g:l=i+1:=hL;subst g;simp only[dS,TM];rw[nL ly ];exact b.1.symm}
theorem uk (f:eB m H)(b:m.t.ak=ZA):∃a nm s p k l,H=.inr (a,nm,s,p,k,l):=by
 rcases H with ⟨c,x,k⟩|⟨a,nm,s,p,k,l⟩
 {have:m.t=⟨ZF,c,x,ZA,⟨#[]⟩,k⟩:=f;rw[this] at b;simp at b};{exact⟨a,nm,s,p,k,l,rfl⟩}
def gu (w:M)(g:Nat)(t:Turn):M:=(((((w.setCell (N g 0 Z) (ZC t.ak)).setCell (N g 1 Z) (Q I t.E)).setCell (N g 2 Z) (U t.y)).setCell (N g 3 Z) (ZC t.ask)).setCell (N g 4 Z) (U t.e)).setCell (N g 5 Z) (Q I t.g)
theorem sK (t:Turn):Only g w (gu w g t):=bO (bO (bO (bO (bO (bO (Only.refl g w) 0 _) 1 _) 2 _) 3 _) 4 _) 5 _
theorem MAt.boxed{i:ZB}(h:MAt w b i m)(f:g≠b)(t:Turn):MAt (gu w g t) b i m :=
 (((((h.other g 0 (ZC t.ak) f).other g 1 (Q I t.E) f).other g 2 (U t.y) f).other g 3 (ZC t.ask) f).other g 4 (U t.e) f).other g 5 (Q I t.g) f
abbrev dB (at_:Int)(sv:ZB)(st lk:Int)(b:Bool)(c:Int)(x:ByteArray)(ask:Bool)(nm:ByteArray)(f:Bool):ZB :=
 ZG #[Q I at_,sv,Q I st,Q I lk,ZC b,Q I c,U x,ZC ask,U nm,ZC f]
theorem dq (h:Below ZR u w)(b:ZR<=g)(v0 v1 v2 v3 v4 v5 v6 v7 v8 v9:ZB):Below ZR u ((((((((((w.setCell (N g 0 Z) v0).setCell (N g 1 Z) v1).setCell (N g 2 Z) v2).setCell (N g 3 Z) v3).setCell (N g 4 Z) v4).setCell (N g 5 Z) v5).setCell (N g 6 Z) v6).setCell (N g 7 Z) v7).setCell (N g 8 Z) v8).setCell (N g 9 Z) v9) :=
 (((((((((h.setCell b v0).setCell b v1).setCell b v2).setCell b v3).setCell b v4).setCell b v5).setCell b v6).setCell b v7).setCell b v8).setCell b v9
theorem eU (at_:Int)(a:Option Addr)(n cap:Nat)(st lk:Int)(f:Bool)(c0:Int)(g:ByteArray)(ask:Bool)(nm:ByteArray)(b:Bool)(c:Int)(x:ByteArray)(w:M):Calls Pg 211 #[dB at_ (Y a n cap) st lk f c0 g ask nm b,Q I c,U x] w λe w'=>e=ZD (dB at_ (Y a n cap) st lk ZF c x ask nm b)/\Below (B (A w)) w w':=by go_enter func211,ntmps211;go_wp2;refine bp (v:=dB at_ (Y a n cap) st lk ZF c x ask nm b) (by simp[results,results211,go_sem]) rfl ⟨rfl,(br.alloc ly _).alloc (by simp) _⟩
theorem um (op:Nat)(w:M)(h1:1<=op)(h15:op<=15):Calls Pg 212 #[Q I op] w λe w'=>e=ZD (.tuple #[Q I (aJ op),Q I (bu op)])/\w'=w:=by
 rcases(show op=1∨op=2∨op=3∨op=4∨op=5∨op=6∨op=7∨op=8∨op=9∨op=10∨op=11∨op=12∨op=13∨op=14∨op=15 by omega) with rfl|rfl|rfl|rfl|rfl|rfl|rfl|rfl|rfl|rfl|rfl|rfl|rfl|rfl|rfl;all_goals
  go_enter func212,ntmps212;go_wp2;refine bp (v:=.tuple #[Q I (aJ _),Q I (bu _)]) (by simp[results,results212,go_sem,aJ,bu]) rfl ⟨rfl,rfl⟩
def bN (op n:Nat)(t a b:ByteArray):List ByteArray :=
 match op with
 |1=>[t]
 |2=>[b++a]
 |3=>[if n<a.size then a.extract 0 n else a]
 |4=>[if n<a.size then a.extract n a.size else ⟨#[]⟩]
 |5=>[eY a n]
 |6=>[dN (a.toList == b.toList)]
 |7=>[a,a]
 |8=>[a,b]
 |_=>[]
theorem lw (w:M)(x:ByteArray)(g:Nat)(b:g=B (A w)):RowStr (w.alloc (J #[U x] 9)) g 0 1 (λi=>[x].getD i ⟨#[]⟩):=by
 subst b
 exact⟨by simp,λi hi=>by
  obtain rfl:i=0:=by omega
  simp⟩
theorem EI (w:M)(x y:ByteArray)(g:Nat)(b:g=B (A w)):RowStr (w.alloc (J #[U x,U y] 9)) g 0 2 (λi=>[x,y].getD i ⟨#[]⟩):=by subst b;exact⟨by simp,λi hi=>by rcases(show i=0∨i=1 by omega) with rfl|rfl<;>simp⟩
theorem un (op n:Nat)(t a b:ByteArray)(w:M)(h1:1<=op)(h8:op<=8)(o:a.size<=2000)(hb:b.size<=2000)(hn:n<=2000):Calls Pg 214 #[ZG #[Q I op,U t,Q I n],U a,U b] w λe w'=>∃g,e=ZD (Y (T (N g 0 Z)) (bN op n t a b).length (bN op n t a b).length)/\RowStr w' g 0 (bN op n t a b).length (λi=>(bN op n t a b).getD i ⟨#[]⟩)/\(B (A w))<=g/\Below (B (A w)) w w':=by
 have f:=ae ((BS w).alloc ly (J #[Q I op,U t,Q I n] 151));rcases(show op=1∨op=2∨op=3∨op=4∨op=5∨op=6∨op=7∨op=8 by omega) with rfl|rfl|rfl|rfl|rfl|rfl|rfl|rfl;{go_enter MJ,LU;go_wp2;go_ret;exact⟨_,rfl,lw _ t _ (by simp),by simp,f.alloc (by simp) _⟩};{go_enter MJ,LU;go_wp2;go_ret;exact⟨_,rfl,lw _ (b++a) _ (by simp),by simp,f.alloc (by simp) _⟩}
 ·by_cases h:(n:Int)<a.size
  ·have e:bN 3 n t a b=[a.extract 0 n]:=by simp[bN];omega
   rw[e];clear e;go_enter MJ,LU;go_wp2;go_ret;exact⟨_,rfl,lw _ _ _ (by simp),by simp,f.alloc (by simp) _⟩
  ·have e:bN 3 n t a b=[a]:=by simp[bN];omega
   rw[e];clear e;go_enter MJ,LU;go_wp2;go_ret;exact⟨_,rfl,lw _ _ _ (by simp),by simp,f.alloc (by simp) _⟩
 ·by_cases h:(n:Int)<a.size
  ·have e:bN 4 n t a b=[a.extract n a.size]:=by simp[bN];omega
   rw[e];clear e;go_enter MJ,LU;go_wp2;go_ret;exact⟨_,rfl,lw _ _ _ (by simp),by simp,f.alloc (by simp) _⟩
  ·have e:bN 4 n t a b=[⟨#[]⟩]:=by simp[bN];omega
   rw[e];clear e;go_enter MJ,LU;go_wp2;go_ret;exact⟨_,rfl,lw _ _ _ (by simp),by simp,f.alloc (by simp) _⟩
 {go_enter MJ,LU;go_wp2_with fail;refine(ue a n _ o hn).mono ?_;rintro e m ⟨rfl,j⟩;have l:=ae (f.trans (j.mono (by simp)));clear j;go_wp2;go_ret;exact⟨_,rfl,lw _ (eY a n) _ rfl,l.size,l.alloc l.size _⟩};{go_enter MJ,LU;go_wp2_with fail;refine(ol _ _).mono ?_;rintro e m ⟨rfl,rfl⟩;go_wp2;go_ret;exact⟨_,rfl,lw _ (dN (a.toList == b.toList)) _ (by simp),by simp,f.alloc (by simp) _⟩};{go_enter MJ,LU;go_wp2;go_ret;exact⟨_,rfl,EI _ a a _ (by simp),by simp,f.alloc (by simp) _⟩};{go_enter MJ,LU;go_wp2;go_ret;exact⟨_,rfl,EI _ a b _ (by simp),by simp,f.alloc (by simp) _⟩}
def Ten (w:M)(g:Nat)(v0 v1 v2 v3 v4 v5 v6 v7 v8 v9:ZB):Prop:=g<B (A w)/\(z w (N g 0 Z)=T v0/\w.frozen? (N g 0 Z)=ZA)/\(z w (N g 1 Z)=T v1/\w.frozen? (N g 1 Z)=ZA)/\(z w (N g 2 Z)=T v2/\w.frozen? (N g 2 Z)=ZA)/\(z w (N g 3 Z)=T v3/\w.frozen? (N g 3 Z)=ZA)/\(z w (N g 4 Z)=T v4/\w.frozen? (N g 4 Z)=ZA)/\(z w (N g 5 Z)=T v5/\w.frozen? (N g 5 Z)=ZA)/\(z w (N g 6 Z)=T v6/\w.frozen? (N g 6 Z)=ZA)/\(z w (N g 7 Z)=T v7/\w.frozen? (N g 7 Z)=ZA)/\(z w (N g 8 Z)=T v8/\w.frozen? (N g 8 Z)=ZA)/\(z w (N g 9 Z)=T v9/\w.frozen? (N g 9 Z)=ZA)
section
variable {w w':M}{g:Nat}{v0 v1 v2 v3 v4 v5 v6 v7 v8 v9:ZB}
theorem Ten.of_block (h:Ten w g v0 v1 v2 v3 v4 v5 v6 v7 v8 v9)(hz:B (A w)<=B (A w'))(hb:w'.heap[g]?=w.heap[g]?):Ten w' g v0 v1 v2 v3 v4 v5 v6 v7 v8 v9:=by have b:∀o,z w' (N g o Z)=z w (N g o Z):=λo=>cq (a:=(N g o Z)) hb;have f:∀o,w'.frozen? (N g o Z)=w.frozen? (N g o Z):=λo=>JK (a:=(N g o Z)) hb;unfold Ten at h ⊢;simp only[b,f];exact⟨lj h.1 hz,h.2⟩
theorem Ten.aa (h:Ten w g v0 v1 v2 v3 v4 v5 v6 v7 v8 v9)(hb:Below ZR w w')(b:g<ZR):Ten w' g v0 v1 v2 v3 v4 v5 v6 v7 v8 v9:=h.of_block hb.size (hb.block g b)
theorem Ten.grown{row:Option Nat}(h:Ten w g v0 v1 v2 v3 v4 v5 v6 v7 v8 v9)(hb:w.grownBy w' row)(b:T g≠row):Ten w' g v0 v1 v2 v3 v4 v5 v6 v7 v8 v9:=h.of_block hb.size (hb.block g h.1 b)
theorem Ten.al (h:Ten w g v0 v1 v2 v3 v4 v5 v6 v7 v8 v9)(o:Obj):Ten (w.alloc o) g v0 v1 v2 v3 v4 v5 v6 v7 v8 v9:=h.aa ((BS w).alloc ly o) h.1
theorem Ten.other (h:Ten w g v0 v1 v2 v3 v4 v5 v6 v7 v8 v9)(p:Addr)(u:ZB)(b:p.block≠g):Ten (w.setCell p u) g v0 v1 v2 v3 v4 v5 v6 v7 v8 v9:=h.of_block (by simp) (qh w p u g (λe=>b e.symm))
end
theorem jA (w:M)(v0 v1 v2 v3 v4 v5 v6 v7 v8 v9:ZB)(t:ZH)(g:Nat)(b:g=B (A w)):Ten (w.alloc (J #[v0,v1,v2,v3,v4,v5,v6,v7,v8,v9] t)) g v0 v1 v2 v3 v4 v5 v6 v7 v8 v9:=by subst b;simp[Ten]
section
variable {w:M}{g:Nat}{v0 v1 v2 v3 v4 v5 v6 v7 v8 v9:ZB}
theorem Ten.sets (h:Ten w g v0 v1 v2 v3 v4 v5 v6 v7 v8 v9)(u:ZB):Ten (w.setCell (N g 0 Z) u) g u v1 v2 v3 v4 v5 v6 v7 v8 v9/\Ten (w.setCell (N g 1 Z) u) g v0 u v2 v3 v4 v5 v6 v7 v8 v9/\Ten (w.setCell (N g 2 Z) u) g v0 v1 u v3 v4 v5 v6 v7 v8 v9/\Ten (w.setCell (N g 3 Z) u) g v0 v1 v2 u v4 v5 v6 v7 v8 v9/\Ten (w.setCell (N g 4 Z) u) g v0 v1 v2 v3 u v5 v6 v7 v8 v9/\Ten (w.setCell (N g 5 Z) u) g v0 v1 v2 v3 v4 u v6 v7 v8 v9/\Ten (w.setCell (N g 6 Z) u) g v0 v1 v2 v3 v4 v5 u v7 v8 v9/\Ten (w.setCell (N g 7 Z) u) g v0 v1 v2 v3 v4 v5 v6 u v8 v9/\Ten (w.setCell (N g 8 Z) u) g v0 v1 v2 v3 v4 v5 v6 v7 u v9/\Ten (w.setCell (N g 9 Z) u) g v0 v1 v2 v3 v4 v5 v6 v7 v8 u:=by have o:∀i j:Nat,i≠j->(w.setCell (N g i Z) u).cell? (N g j Z)=z w (N g j Z):=λi j hij=>sq _ _ _ _ (by simp);have s:∀i v,z w (N g i Z)=T v->(w.setCell (N g i Z) u).cell? (N g i Z)=T u:=λi v e=>DN _ _ _ (by rw[e];rfl);obtain⟨ZO,⟨p,ZR⟩,⟨t,y⟩,⟨b,D⟩,⟨m,E⟩,⟨n,ZP⟩,⟨r,C⟩,⟨x,G⟩,⟨l,ZS⟩,⟨q,H⟩,f,ZT⟩:=h;simp[Ten,o,ZO,s _ _ p,s _ _ t,s _ _ b,s _ _ m,s _ _ n,s _ _ r,s _ _ x,s _ _ l,s _ _ q,s _ _ f,p,t,b,m,n,r,x,l,q,f,ZR,y,D,E,ZP,C,G,ZS,H,ZT]
theorem Ten.set0 (h:Ten w g v0 v1 v2 v3 v4 v5 v6 v7 v8 v9)(u:ZB):Ten (w.setCell (N g 0 Z) u) g u v1 v2 v3 v4 v5 v6 v7 v8 v9:=(h.sets u).1
theorem Ten.set1 (h:Ten w g v0 v1 v2 v3 v4 v5 v6 v7 v8 v9)(u:ZB):Ten (w.setCell (N g 1 Z) u) g v0 u v2 v3 v4 v5 v6 v7 v8 v9:=(h.sets u).2.1
theorem Ten.set2 (h:Ten w g v0 v1 v2 v3 v4 v5 v6 v7 v8 v9)(u:ZB):Ten (w.setCell (N g 2 Z) u) g v0 v1 u v3 v4 v5 v6 v7 v8 v9:=(h.sets u).2.2.1
theorem Ten.set3 (h:Ten w g v0 v1 v2 v3 v4 v5 v6 v7 v8 v9)(u:ZB):Ten (w.setCell (N g 3 Z) u) g v0 v1 v2 u v4 v5 v6 v7 v8 v9:=(h.sets u).2.2.2.1
theorem Ten.set4 (h:Ten w g v0 v1 v2 v3 v4 v5 v6 v7 v8 v9)(u:ZB):Ten (w.setCell (N g 4 Z) u) g v0 v1 v2 v3 u v5 v6 v7 v8 v9:=(h.sets u).2.2.2.2.1
theorem Ten.set5 (h:Ten w g v0 v1 v2 v3 v4 v5 v6 v7 v8 v9)(u:ZB):Ten (w.setCell (N g 5 Z) u) g v0 v1 v2 v3 v4 u v6 v7 v8 v9:=(h.sets u).2.2.2.2.2.1
theorem Ten.set6 (h:Ten w g v0 v1 v2 v3 v4 v5 v6 v7 v8 v9)(u:ZB):Ten (w.setCell (N g 6 Z) u) g v0 v1 v2 v3 v4 v5 u v7 v8 v9:=(h.sets u).2.2.2.2.2.2.1
theorem Ten.set7 (h:Ten w g v0 v1 v2 v3 v4 v5 v6 v7 v8 v9)(u:ZB):Ten (w.setCell (N g 7 Z) u) g v0 v1 v2 v3 v4 v5 v6 u v8 v9:=(h.sets u).2.2.2.2.2.2.2.1
theorem Ten.set8 (h:Ten w g v0 v1 v2 v3 v4 v5 v6 v7 v8 v9)(u:ZB):Ten (w.setCell (N g 8 Z) u) g v0 v1 v2 v3 v4 v5 v6 v7 u v9:=(h.sets u).2.2.2.2.2.2.2.2.1
theorem Ten.set9 (h:Ten w g v0 v1 v2 v3 v4 v5 v6 v7 v8 v9)(u:ZB):Ten (w.setCell (N g 9 Z) u) g v0 v1 v2 v3 v4 v5 v6 v7 v8 u:=(h.sets u).2.2.2.2.2.2.2.2.2
end
theorem EJ (w:M)(b:Array ZB)(ty:ZH)(R ZJ:Obj)(j:Nat)(v:ZB)(f:b[j]?=T v):(((w.alloc (J b ty)).alloc R).alloc ZJ).cell? (N (B (A w)) j Z)=T v:=by rw[(((cM (w.alloc (J b ty)).heap.size _).alloc ly R).alloc (by simp) ZJ).cell (p:=(N (B (A w)) j Z)) (by simp)];simp[f]
abbrev SO:=(Nat × Nat × Nat × List ByteArray) ⊕ (Int × ByteArray × Nat) ⊕ (Bool × ByteArray × Nat)
abbrev strs (s:List ByteArray):List ZB:=s.reverse.map Value.string
def SoIs (w:M)(base:Nat)(v:ZB):SO->Prop
 |.inl (p,st,l,s)=>∃a cap,v=dB p (Y a s.length cap) st l ZA 0 ⟨#[]⟩ ZA ⟨#[]⟩ ZA/\w.ownsRow base 9 1 (Y a s.length cap) s.length (strs s)
 |.inr (.inl (c,x,st))=>∃(at_:Int) (a:Option Addr) (n cap:Nat) (lk:Int),v=dB at_ (Y a n cap) st lk ZF c x ZA ⟨#[]⟩ ZA
 |.inr (.inr (ask,nm,st))=>∃(at_:Int) (a:Option Addr) (n cap:Nat) (lk:Int),v=dB at_ (Y a n cap) st lk ZA 0 ⟨#[]⟩ ask nm ZF
theorem SoIs.kept{w':M}{v:ZB}{r:SO}(h:SoIs w base v r)(hb:Below (B (A w)) w w')(f:b<=base):SoIs w' b v r:=by
 rcases r with ⟨p,st,l,s⟩|⟨c,x,st⟩|⟨ask,nm,st⟩
 {obtain⟨a,cap,e,g⟩:=h;exact⟨a,cap,e,aC (own_below g hb ly) f⟩};{exact h};{exact h}
theorem yj{k:Nat}{s0:ByteArray}{i:Int}{b:List ZB}(h:w.ownsRow base e 1 (Y (T (N g 0 Z)) n cap) n b)(j:b[0]?=T (U s0))(f:z w (N k 0 Z)=T (Q I i)):k≠g:=by rintro rfl;have:=h.cells (g:=k) rfl 0 _ j;simp[Addr.add] at this;rw[f] at this;simp at this
theorem fD (x:ByteArray)(s:List ByteArray):strs (x::s)=strs s++[U x]:=by simp[strs]
theorem uZ:∃s0,(strs s++[Value.string x])[0]?=T (U s0):=by
 rw[<-fD];simp only[strs,JM,MG];have h:0<(x::s).reverse.length:=by simp
 exact⟨_,_,gq h,rfl⟩
theorem dr{b:List ZB}(h:w.ownsRow base e 1 (Y (T (N g 0 Z)) n cap) n b){k:Nat}(f:k≠g)(u:ZB)(j:Nat):(w.setCell (N k j Z) u).ownsRow base e 1 (Y (T (N g 0 Z)) n cap) n b :=
 QU h (by simp[Value.ownBlock];exact λe=>f e.symm) u
theorem Ao{f:List ZB}(h:w.ownsRow base e 1 (Y (T (N g 0 Z)) n cap) n f){k:Nat}(b:k≠g)(v0 v1 v2 v3 v4 v5 v6 v7 v8 v9:ZB):World.ownsRow ((((((((((w.setCell (N k 0 Z) v0).setCell (N k 1 Z) v1).setCell (N k 2 Z) v2).setCell (N k 3 Z) v3).setCell (N k 4 Z) v4).setCell (N k 5 Z) v5).setCell (N k 6 Z) v6).setCell (N k 7 Z) v7).setCell (N k 8 Z) v8).setCell (N k 9 Z) v9) base e 1 (Y (T (N g 0 Z)) n cap) n f :=
 dr (dr (dr (dr (dr (dr (dr (dr (dr (dr h b v0 0) b v1 1) b v2 2) b v3 3) b v4 4) b v5 5) b v6 6) b v7 7) b v8 8) b v9 9
def jb (y:Nat->aB)(n:Nat)(a:Bool)(nm:ByteArray)(s:List ByteArray)(p st l:Nat):SO :=
 if n<=l then .inr (.inr (a,nm,st)) else if a=ZA then .inl (p,st,(l+1),(dN (y l).has::s)) else if (y l).has=ZA then .inr (.inl (4,nm,st))
 else if (y l).E=0 then .inl (p,st,(l+1),((y l).y::s)) else .inr (.inl (5,nm,st))
def iN (y:Nat->aB)(n op:Nat)(pl nm:ByteArray)(s:List ByteArray)(p st l:Nat):SO :=
 if aA nm=ZA then .inr (.inl (2,pl,st)) else if l=200 then .inr (.inl (3,⟨#[]⟩,st)) else jb y n ((op:Int) == 12) nm s p st l
theorem yk{pl nm:ByteArray}{st:Nat}{b:SO}(h:b=iN y n op pl nm s p st l)(j:op=12∨op=13):(aA nm=ZA/\b=.inr (.inl (2,pl,st)))∨(aA nm=ZF/\((l:Int) == 200)=ZF/\b=.inr (.inl (3,⟨#[]⟩,st))) ∨
  (aA nm=ZF/\((l:Int) == 200)=ZA/\((n<=l/\b=.inr (.inr (((op:Int) == 12),nm,st)))∨(l<n/\((op=13/\b=.inl (p,st,(l+1),(dN (y l).has::s)))∨(op=12/\(((y l).has=ZA/\b=.inr (.inl (4,nm,st)))∨((y l).has=ZF/\(((y l).E=0/\b=.inl (p,st,(l+1),((y l).y::s)))∨(((y l).E == 0)=ZA/\b=.inr (.inl (5,nm,st))))))))))):=by
 unfold iN jb at h;by_cases h1:aA nm=ZA;{rw[nL h1] at h;exact .inl ⟨h1,h⟩};rw[eT h1] at h;have h1:aA nm=ZF:=by simpa using h1
 by_cases h2:l=200;{rw[nL h2] at h;exact .inr (.inl ⟨h1,by simp;omega,h⟩)};rw[eT h2] at h;refine .inr (.inr ⟨h1,by simp;omega,?_⟩);by_cases i:n<=l;{rw[nL i] at h;exact .inl ⟨i,h⟩};rw[eT i] at h;refine .inr ⟨by omega,?_⟩;rcases j with rfl|rfl;{rw[eT (by simp)] at h;by_cases f:(y l).has=ZA;{rw[nL f] at h;exact .inr ⟨rfl,.inl ⟨f,h⟩⟩};rw[eT f] at h;by_cases g:(y l).E=0;{rw[nL g] at h;exact .inr ⟨rfl,.inr ⟨by simpa using f,.inl ⟨g,h⟩⟩⟩};rw[eT g] at h;exact .inr ⟨rfl,.inr ⟨by simpa using f,.inr ⟨by simpa using g,h⟩⟩⟩};{rw[nL (by simp)] at h;exact .inl ⟨rfl,h⟩}
structure LkS (w:M)(op:Int)(base:Nat)(a:Option Addr)(cap:Nat)(s:List ByteArray)(p st lk:Int)(V:M):Prop where
 run:Ten V (B (A w)+1) (Q I p) (Y a s.length cap) (Q I st) (Q I lk) (ZC ZA) (Q I 0) (U ⟨#[]⟩) (ZC ZA) (U ⟨#[]⟩) (ZC ZA)
 zer:Ten V (B (A w)+1+1) (Q I 0) (Y Z 0 0) (Q I 0) (Q I 0) (ZC ZA) (Q I 0) (U ⟨#[]⟩) (ZC ZA) (U ⟨#[]⟩) (ZC ZA)
 bl:Below (B (A w)) w V
 x:V.ownsRow base 9 1 (Y a s.length cap) s.length (strs s)
 ne:∀k,B (A w)<=k->Value.ownBlock (Y a s.length cap)≠T k
 arg:z V (N (B (A w)) 0 Z)=T (Q I op)
section
variable {w V ZK:M}{base cap:Nat}{a:Option Addr}{s:List ByteArray}{op p st lk:Int}
theorem LkS.aa (h:LkS w op base a cap s p st lk V)(b:Below (B (A V)) V ZK):LkS w op base a cap s p st lk ZK :=
 ⟨h.run.aa b h.run.1,h.zer.aa b h.zer.1,h.bl.trans (b.mono h.bl.size),own_below h.x b ly,h.ne,(b.cell (p:=(N (B (A w)) 0 Z)) (by have:=h.run.1;show (B (A w))<_;omega)).trans h.arg⟩
theorem LkS.next (h:LkS w op base a cap s p st lk V)(q:Int):LkS w op base a cap s p st q (V.setCell (N (B (A w)+1) 3 Z) (Q I q)) :=
 ⟨h.run.set3 _,h.zer.other _ _ (by simp),h.bl.setCell (p:=(N (B (A w)+1) 3 Z)) (by simp) _,QU h.x (a:=(N (B (A w)+1) 3 Z)) (h.ne _ (by simp)) _,h.ne,(sq _ _ _ _ (by simp)).trans h.arg⟩
theorem LkS.al (h:LkS w op base a cap s p st lk V)(o:Obj):LkS w op base a cap s p st lk (V.alloc o):=h.aa (br.alloc ly o)
theorem LkS.drew (h:LkS w op base a cap s p st lk V):LkS w op base a cap s p st lk V.drew:=h.aa br.drew
theorem LkS.grown (h:LkS w op base a cap s p st lk V)(b:V.grownBy ZK (Value.slice a s.length cap).ownBlock)(hb:base<=B (A w)):Ten ZK (B (A w)+1) (Q I p) (Y a s.length cap) (Q I st) (Q I lk) (ZC ZA) (Q I 0) (U ⟨#[]⟩) (ZC ZA) (U ⟨#[]⟩) (ZC ZA)/\Ten ZK (B (A w)+1+1) (Q I 0) (Y Z 0 0) (Q I 0) (Q I 0) (ZC ZA) (Q I 0) (U ⟨#[]⟩) (ZC ZA) (U ⟨#[]⟩) (ZC ZA)/\Below base w ZK :=
 ⟨h.run.grown b λe=>h.ne _ (by omega) e.symm,h.zer.grown b λe=>h.ne _ (by omega) e.symm,bg (h.bl.mono hb) b (nD hb h.bl.size) λk e=>(h.x.lt k e).1⟩
end
theorem wQ (op:Nat)(t:ByteArray)(k:Int)(p st l:Nat)(a:Option Addr)(cap:Nat)(s:List ByteArray)(nm pl:ByteArray)(b2 o2 n aq base:Nat)(y:Nat->aB)(w:M)
  (hY:RowReply w b2 o2 n y) (S:w.ownsRow base 9 1 (Y a s.length cap) s.length (strs s)) (hb:base<=B (A w)) (bt:op=12∨op=13) (hl:l<=200) (hs:s.length<=50) :
  Calls Pg 213 #[ZG #[Q I op,U t,Q I k],dB p (Y a s.length cap) st l ZA 0 ⟨#[]⟩ ZA ⟨#[]⟩ ZA,U nm,U pl,Y (T (N b2 o2 Z)) n aq] w λe w'=>∃v,e=ZD v/\SoIs w' base v (iN y n op pl nm s p st l)/\Below base w w':=by
 obtain⟨so,ZS⟩:∃so,so=iN y n op pl nm s p st l:=⟨_,rfl⟩
 rw[<-ZS];have HQ:=ae (yk ZS bt);have HY:=ae hY;have A0:=ae ((((BS w).alloc ly (J #[Q I op,U t,Q I k] 151)).alloc (by simp) (J #[Q I p,Y a s.length cap,Q I st,Q I l,ZC ZA,Q I 0,U ⟨#[]⟩,ZC ZA,U ⟨#[]⟩,ZC ZA] 226)).alloc (by simp<;>omega) (J #[Q I 0,Y Z 0 0,Q I 0,Q I 0,ZC ZA,Q I 0,U ⟨#[]⟩,ZC ZA,U ⟨#[]⟩,ZC ZA] 226));have C:=ae (LkS.mk (p:=p) (st:=st) (lk:=l) ((jA (w.alloc (J #[Q I op,U t,Q I k] 151)) _ _ _ _ _ _ _ _ _ _ 226 (B (A w)+1) (by simp)).al _) (jA _ _ _ _ _ _ _ _ _ _ _ 226 (B (A w)+1+1) (by simp)) A0.out (own_below S A0 ly) (λk hk e=>by have:=(S.lt k e).2;omega) (EJ w #[Q I op,U t,Q I k] 151 (J #[Q I p,Y a s.length cap,Q I st,Q I l,ZC ZA,Q I 0,U ⟨#[]⟩,ZC ZA,U ⟨#[]⟩,ZC ZA] 226) (J #[Q I 0,Y Z 0 0,Q I 0,Q I 0,ZC ZA,Q I 0,U ⟨#[]⟩,ZC ZA,U ⟨#[]⟩,ZC ZA] 226) 0 (Q I op) rfl));clear ZS hY S A0;go_enter func213,ntmps213;go_wp2_with fail;generalize World.alloc (World.alloc (World.alloc w _) _) _=W0 at C ⊢;refine(cH nm _).mono ?_;rintro e g ⟨rfl,D⟩;replace C:=ae (C.aa D);have hz1:=C.zer.1;have i0:=C.arg;clear D;have R1:=ae C.run;obtain⟨ZT,⟨c0,f0⟩,⟨c1,f1⟩,⟨c2,O⟩,⟨c3,ZK⟩,⟨c4,f4⟩,⟨c5,f5⟩,⟨c6,ZL⟩,⟨ZM,f7⟩,⟨ZN,P⟩,R,f9⟩:=R1.out;rcases HQ.out with ⟨h1,rfl⟩|⟨h1,h2,rfl⟩|⟨h1,h2,⟨h3,rfl⟩|⟨h3,h⟩⟩
 all_goals
  rw[h1];clear HQ
 case' inr.inr.inl =>
  have ZE:=ae (((C.zer.other (N (B (A w)+1) 9 Z) (ZC ZF) (by simp)).other (N (B (A w)+1) 7 Z) (ZC ((op:Int) == 12)) (by simp)).other (N (B (A w)+1) 8 Z) (U nm) (by simp));have B2:=ae (((C.bl.setCell (p:=(N (B (A w)+1) 9 Z)) (by simp) (ZC ZF)).setCell (p:=(N (B (A w)+1) 7 Z)) (by simp) (ZC ((op:Int) == 12))).setCell (p:=(N (B (A w)+1) 8 Z)) (by simp) (U nm));obtain⟨u,⟨z0,y0⟩,⟨z1,y1⟩,⟨z2,ZI⟩,⟨z3,y3⟩,⟨r,y4⟩,⟨q,ZJ⟩,⟨i,V⟩,⟨j,y7⟩,⟨m,y8⟩,o,y9⟩:=ZE.out;have hw:(n:Int)<=l:=by omega
  go_wp2;exact bp (v:=dB p (Y a s.length cap) st l ZA 0 ⟨#[]⟩ ((op:Int) == 12) nm ZF) (by simp[results,NP,go_sem,z0,z1,z2,z3,r,q,i,j,m,o]) rfl ⟨_,rfl,⟨_,_,_,_,_,rfl⟩,dq (B2.mono hb) (by omega) _ _ _ _ _ _ _ _ _ _⟩
 case' inr.inr.inr =>
  obtain⟨d0,d1,d2⟩:=(HY.aa C.bl ly).2 l h3;have hln:(l:Int)<n:=by omega
  have hz0:B (A w)<B (A g):=by omega
  have hz01:B (A w)+1<B (A g):=by omega
  replace C:=ae ((C.next ((l:Int)+1)).al (J #[ZC (y l).has,Q I (y l).E,U (y l).y] 166));have ZQ:=jl (g.setCell (N (B (A w)+1) 3 Z) (Q I ((l:Int)+1))) #[ZC (y l).has,Q I (y l).E,U (y l).y] 166 (B (A g)) 0 (ZC (y l).has) (by simp) rfl;have g1:=jl (g.setCell (N (B (A w)+1) 3 Z) (Q I ((l:Int)+1))) #[ZC (y l).has,Q I (y l).E,U (y l).y] 166 (B (A g)) 1 (Q I (y l).E) (by simp) rfl;have g2:=jl (g.setCell (N (B (A w)+1) 3 Z) (Q I ((l:Int)+1))) #[ZC (y l).has,Q I (y l).E,U (y l).y] 166 (B (A g)) 2 (U (y l).y) (by simp) rfl;have fd:B (A g)<((g.setCell (N (B (A w)+1) 3 Z) (Q I ((l:Int)+1))).alloc (J #[ZC (y l).has,Q I (y l).E,U (y l).y] 166)).heap.size:=by simp
  go_upto_region 12 with fail;clear ZT c0 f0 c1 f1 c2 O c3 ZK c4 f4 c5 f5 c6 ZL ZM f7 ZN P R f9 R1 d0 d1 d2 i0;generalize World.alloc (World.setCell g _ _) _=W at C ZQ g1 g2 fd ⊢;have i0:=C.arg;have hbW:base<=B (A W):=nD hb C.bl.size;obtain⟨ZO,hi,K,L,H⟩:=JT fK;obtain⟨ZT,⟨c0,f0⟩,⟨c1,f1⟩,⟨c2,O⟩,⟨c3,ZK⟩,⟨c4,f4⟩,⟨c5,f5⟩,⟨c6,ZL⟩,⟨ZM,f7⟩,⟨ZN,P⟩,R,f9⟩:=C.run;rcases h with ⟨rfl,rfl⟩|⟨rfl,⟨X,rfl⟩|⟨X,⟨h5,rfl⟩|⟨h5,rfl⟩⟩⟩
  case' inr.inl|inr.inr.inr=>rw[X] at ZQ
  case' inr.inr.inl =>rw[X] at ZQ;rw[h5] at g1;go_wp2_with (at_builtin;refine IS _ rfl (.tmp 70) (.tmp 73) 30 rfl base 9 ZO (U ⟨#[]⟩) 1 16 JD hi K L H rfl (by decide) (Y a s.length cap) s.length (strs s) (by simp[Act.eval]) (by first|exact C.x.alloc _|exact C.x.drew.alloc _|exact C.x.drew.drew.alloc _) (N (B (A W)) 0 Z) 1 1 [U (y l).y] (by simp[Act.eval]) rfl (by first|exact cT W _ _|exact cT W.drew _ _|exact cT W.drew.drew _ _) (by simp[Value.oneCell']) (by unfold maxLen;omega) (by omega) (by simp<;>omega) ?_;intro v' w2 b f ZR;obtain⟨gg,x,rfl⟩:=fY b (by omega);have G:=ae (LkS.grown (by first|exact C.al _|exact C.drew.al _|exact C.drew.drew.al _) f hb);obtain⟨ex,⟨k0,m0⟩,⟨k1,m1⟩,⟨k2,m2⟩,⟨k3,m3⟩,⟨k4,m4⟩,⟨k5,m5⟩,⟨k6,m6⟩,⟨k7,m7⟩,⟨k8,m8⟩,k9,m9⟩:=G.1;obtain⟨u,⟨z0,y0⟩,⟨z1,y1⟩,⟨z2,ZI⟩,⟨z3,y3⟩,⟨r,y4⟩,⟨q,ZJ⟩,⟨i,V⟩,⟨j,y7⟩,⟨m,y8⟩,o,y9⟩:=G.2.1)
  case' inl =>go_wp2_with fail;go_region_law (first|(refine cD rfl (.tmp 49) (.tmp 53) 30 rfl base 9 ZO (U ⟨#[]⟩) 1 16 JD hi K L H rfl (by decide) (Y a s.length cap) s.length (strs s) (by simp[Act.eval]) (by first|exact C.x.alloc _|exact C.x.drew.alloc _|exact C.x.drew.drew.alloc _) (N (B (A W)) 0 Z) 1 1 [U (dN (y l).has)] (by simp[Act.eval]) rfl (by first|exact cT W _ _|exact cT W.drew _ _|exact cT W.drew.drew _ _) (by simp[Value.oneCell']) (by unfold maxLen;omega) (by omega) (by simp<;>omega) ?_;intro v' w2 b f ZR;obtain⟨gg,x,rfl⟩:=fY b (by omega);have G:=ae (LkS.grown (by first|exact C.al _|exact C.drew.al _|exact C.drew.drew.al _) f hb);obtain⟨ex,⟨k0,m0⟩,⟨k1,m1⟩,⟨k2,m2⟩,⟨k3,m3⟩,⟨k4,m4⟩,⟨k5,m5⟩,⟨k6,m6⟩,⟨k7,m7⟩,⟨k8,m8⟩,k9,m9⟩:=G.1;obtain⟨u,⟨z0,y0⟩,⟨z1,y1⟩,⟨z2,ZI⟩,⟨z3,y3⟩,⟨r,y4⟩,⟨q,ZJ⟩,⟨i,V⟩,⟨j,y7⟩,⟨m,y8⟩,o,y9⟩:=G.2.1)|(go_simp;go_at_call 191;refine(ol _ _).mono ?_;rintro e w9 ⟨rfl,mv⟩;subst mv))
  all_goals (try (have ZP:=yj b (uZ (s:=s)).choose_spec G.1.2.1.1;have n8:=yj b (uZ (s:=s)).choose_spec G.2.1.2.1.1;have ld:=ae (dr b ZP (Y (T (N gg 0 Z)) (s.length+1) x) 1);have B4:=ae (G.2.2.setCell (p:=(N (B (A w)+1) 1 Z)) (by simp;omega) (Y (T (N gg 0 Z)) (s.length+1) x));clear b f ZR ZP;(try go_wp2);refine bp (v:=dB p (Y (T (N gg 0 Z)) (s.length+1) x) st ((l:Int)+1) ZA 0 ⟨#[]⟩ ZA ⟨#[]⟩ ZA) (by simp[results,NP,go_sem,z0,z1,z2,z3,r,q,i,j,m,o]) rfl ⟨_,rfl,⟨T (N gg 0 Z),x,by simp,?_⟩,dq B4.out (by omega) _ _ _ _ _ _ _ _ _ _⟩;rw[fD];exact Ao ld n8 _ _ _ _ _ _ _ _ _ _))
 all_goals
  go_wp2_with fail;refine(eU _ _ _ _ _ _ _ _ _ _ _ _ _ _ _).mono ?_;rintro e w2 ⟨rfl,E⟩;replace C:=ae (C.aa E);clear E ZT c0 f0 c1 f1 c2 O c3 ZK c4 f4 c5 f5 c6 ZL ZM f7 ZN P R f9;obtain⟨u,⟨z0,y0⟩,⟨z1,y1⟩,⟨z2,ZI⟩,⟨z3,y3⟩,⟨r,y4⟩,⟨q,ZJ⟩,⟨i,V⟩,⟨j,y7⟩,⟨m,y8⟩,o,y9⟩:=C.zer;go_wp2;first
   |exact bp (v:=dB p (Y a s.length cap) st l ZF 3 ⟨#[]⟩ ZA ⟨#[]⟩ ZA) (by simp[results,NP,go_sem,z0,z1,z2,z3,r,q,i,j,m,o]) rfl ⟨_,rfl,⟨_,_,_,_,_,rfl⟩,dq (C.bl.mono hb) (by omega) _ _ _ _ _ _ _ _ _ _⟩
   |exact bp (v:=dB p (Y a s.length cap) st l ZF 2 pl ZA ⟨#[]⟩ ZA) (by simp[results,NP,go_sem,z0,z1,z2,z3,r,q,i,j,m,o]) rfl ⟨_,rfl,⟨_,_,_,_,_,rfl⟩,dq (C.bl.mono hb) (by omega) _ _ _ _ _ _ _ _ _ _⟩
   |exact bp (v:=dB p (Y a s.length cap) st ((l:Int)+1) ZF 4 nm ZA ⟨#[]⟩ ZA) (by simp[results,NP,go_sem,z0,z1,z2,z3,r,q,i,j,m,o]) rfl ⟨_,rfl,⟨_,_,_,_,_,rfl⟩,dq (C.bl.mono hb) (by omega) _ _ _ _ _ _ _ _ _ _⟩
   |exact bp (v:=dB p (Y a s.length cap) st ((l:Int)+1) ZF 5 nm ZA ⟨#[]⟩ ZA) (by simp[results,NP,go_sem,z0,z1,z2,z3,r,q,i,j,m,o]) rfl ⟨_,rfl,⟨_,_,_,_,_,rfl⟩,dq (C.bl.mono hb) (by omega) _ _ _ _ _ _ _ _ _ _⟩
theorem add0 (g j:Nat):((N g 0 Z):Addr).add j=(N g j Z):=by unfold Addr.add;split<;>simp_all
theorem Dn (h:w.ownsRow base e 1 (Y (T (N g 0 Z)) (r.length+1) cap) (r.length+1) (strs (x::r))):z w (N g r.length Z)=T (U x):=by have:=h.cells (g:=g) rfl r.length (U x) (by rw[fD,JP (by simp)];simp);rwa[add0] at this
theorem Do{ZT:ByteArray}(h:w.ownsRow base e 1 (Y (T (N g 0 Z)) (r.length+2) cap) (r.length+2) (strs (x::ZT::r))):z w (N g (r.length+1) Z)=T (U x)/\z w (N g r.length Z)=T (U ZT):=by have h1:=h.cells (g:=g) rfl (r.length+1) (U x) (by rw[fD,JP (by simp)];simp);have h2:=h.cells (g:=g) rfl r.length (U ZT) (by rw[fD,JU (by simp),fD,JP (by simp)];simp);rw[add0] at h1 h2;exact⟨h1,h2⟩
theorem Dp{f:List ZB}(h:w.ownsRow base e 1 (Y (T (N g 0 Z)) n cap) n f):n<=cap:=by
 rcases h.2 with ⟨i,_⟩|⟨g,c,cur,b,_,_,hn,_⟩
 {simp at i};{simp at b;omega}
theorem Dq{xs:List ZB}(h:w.ownsRow base e 1 (Y (T (N g 0 Z)) n cap) n (strs r++xs)):∀j u,(strs r)[j]?=T u->w.cell? (((N g 0 Z):Addr).add j)=T u:=λj u b =>h.cells (g:=g) rfl j u (by rw[JU (by obtain⟨f,_⟩:=p9.1 b;exact f)];exact b)
theorem qd{v:ZB}(h:w.ownsRow base e 1 v n i)(b:v≠.slice Z 0 0):∃g cap,v=Y (T (N g 0 Z)) n cap/\base<=g:=by
 rcases h.2 with ⟨j,_⟩|⟨g,cap,cur,b,f,_⟩
 {exact absurd j b};{exact⟨g,cap,b,f⟩}
theorem Ap (r:List ByteArray):∀u∈strs r,u.oneCell'=ZF:=by intro u b;obtain⟨x,_,rfl⟩:=KH.1 b;rfl
theorem SoIs.form{v:ZB}{r:SO}(h:SoIs w base v r):∃(at_:Int) (a:Option Addr) (n cap:Nat) (st lk:Int) (f:Bool) (c:Int) (x:ByteArray) (ask:Bool) (nm:ByteArray) (b:Bool),v=dB at_ (Y a n cap) st lk f c x ask nm b:=by
 rcases r with ⟨p,st,l,s⟩|⟨c,x,st⟩|⟨ask,nm,st⟩
 {obtain⟨a,cap,e,_⟩:=h;exact⟨_,_,_,_,_,_,_,_,_,_,_,_,e⟩};{obtain⟨at_,a,n,cap,lk,e⟩:=h;exact⟨_,_,_,_,_,_,_,_,_,_,_,_,e⟩};{obtain⟨at_,a,n,cap,lk,e⟩:=h;exact⟨_,_,_,_,_,_,_,_,_,_,_,_,e⟩}
theorem SoIs.set{v:ZB}{r:SO}(h:SoIs w base v r){k:Nat}(b:k<base)(j:Nat)(u:ZB):SoIs (w.setCell (N k j Z) u) base v r:=by
 rcases r with ⟨p,st,l,s⟩|⟨c,x,st⟩|⟨ask,nm,st⟩
 {obtain⟨a,cap,e,f⟩:=h;exact⟨a,cap,e,QV f (a:=(N k j Z)) b u⟩};{exact h};{exact h}
theorem SoIs.mono{base':Nat}{v:ZB}{r:SO}(h:SoIs w base v r)(hb:base'<=base):SoIs w base' v r:=h.kept br hb
theorem ym{v:ZB}{r:SO}(h:SoIs w base v r){k:Nat}(b:k<base)(v0 v1 v2 v3 v4 v5 v6 v7 v8 v9:ZB):SoIs ((((((((((w.setCell (N k 0 Z) v0).setCell (N k 1 Z) v1).setCell (N k 2 Z) v2).setCell (N k 3 Z) v3).setCell (N k 4 Z) v4).setCell (N k 5 Z) v5).setCell (N k 6 Z) v6).setCell (N k 7 Z) v7).setCell (N k 8 Z) v8).setCell (N k 9 Z) v9) base v r :=
 (((((((((h.set b 0 v0).set b 1 v1).set b 2 v2).set b 3 v3).set b 4 v4).set b 5 v5).set b 6 v6).set b 7 v7).set b 8 v8).set b 9 v9
theorem wR (op n:Nat)(t a b:ByteArray)(h1:1<=op)(h11:op<=11):(bN op n t a b).length=bu op:=by rcases(show op=1∨op=2∨op=3∨op=4∨op=5∨op=6∨op=7∨op=8∨op=9∨op=10∨op=11 by omega) with rfl|rfl|rfl|rfl|rfl|rfl|rfl|rfl|rfl|rfl|rfl;all_goals rfl
theorem Dr (h1:1<=op)(h11:op<=11)(h:j<bu op):op<=8:=by rcases(show op=1∨op=2∨op=3∨op=4∨op=5∨op=6∨op=7∨op=8∨op=9∨op=10∨op=11 by omega) with rfl|rfl|rfl|rfl|rfl|rfl|rfl|rfl|rfl|rfl|rfl;all_goals simp[bu] at h ⊢
theorem Aq (op:Nat):bu op<=2:=by
 unfold bu;split;{omega};{split<;>omega}
def fE (b:List ByteArray)(pl:ByteArray)(r:List ByteArray)(p st l:Nat):SO:=if b.all (λx=>decide (x.size<=2000)) then .inl (p,st,l,(b.reverse++r)) else .inr (.inl (2,pl,st))
theorem yn{b:List ByteArray}(h:j<b.length):(b.take (j+1)).map Value.string=(b.take j).map Value.string++[U (b.getD j ⟨#[]⟩)]:=by rw[List.take_add_one,JS,gq h];simp[h]
theorem Ar (b r:List ByteArray):strs (b.reverse++r)=strs r++b.map Value.string:=by simp[strs]
theorem Ds{b:List ByteArray}(h:j<b.length)(f:¬ ((b.getD j ⟨#[]⟩).size:Int)<=2000):b.all (λx=>decide (x.size<=2000))=ZA:=by simp only[List.all_eq_false];exact⟨b[j],gz h,by simp[h] at f ⊢;omega⟩
theorem As{b:List ByteArray}(h:∀i,i<b.length->(b.getD i ⟨#[]⟩).size<=2000):b.all (λx=>decide (x.size<=2000))=ZF:=by simp only[List.all_eq_true,xT];intro x f;obtain⟨i,hi,rfl⟩:=RV.1 f;have:=h i hi;simpa[hi] using this
def gv (y:Nat->aB)(n place st looks:Nat):Res->SO
 |.inr (.inl (c,x))=>.inr (.inl (c,x,st))
 |.inl (s',p)=>.inl (p,st,looks,s')
 |.inr (.inr (a,nm,s'))=>jb y n a nm s' (place+1) st looks
def fh (f:Nat->Ins)(cnt:Nat)(y:Nat->aB)(n place steps looks:Nat)(s:List ByteArray):SO:=gv y n place (cj cnt place steps) looks (bv f cnt place steps looks s)
theorem yo{a:Option Addr}(h:w.ownsRow base e 1 (Y a n cap) n i):(a=Z/\n=0/\cap=0)∨∃g,a=T (N g 0 Z):=by
 rcases h.2 with ⟨f,_⟩|⟨g,c,cur,b,_⟩
 {simp only[JG] at f;exact .inl f};{simp only[JG] at b;exact .inr ⟨g,b.1⟩}
theorem wU (op k:Nat)(t a b:ByteArray)(h1:1<=op)(h11:op<=11)(h2:op≠2)(g:t.size<=2000)(f:a.size<=2000)(hb:b.size<=2000):(bN op k t a b).all (λx=>decide (x.size<=2000))=ZF:=by
 rcases(show op=1∨op=3∨op=4∨op=5∨op=6∨op=7∨op=8∨op=9∨op=10∨op=11 by omega) with rfl|rfl|rfl|rfl|rfl|rfl|rfl|rfl|rfl|rfl;{simp[bN,g]};{simp only[bN,Q9,SY,PF,xT];split;{simp;omega};{exact f}};{simp only[bN,Q9,SY,PF,xT];split;{simp;omega};{decide}};{simp only[bN,Q9,SY,PF,xT];exact nD (oB _ _) f};{simp only[bN,Q9,SY,PF,xT];exact ix _};{simp[bN,f]};{simp[bN,f,hb]};{rfl};{rfl};{rfl}
theorem wV (op k:Nat)(t a b pl:ByteArray)(r:List ByteArray)(p st l:Nat)(h1:1<=op)(f:op<=11)(h2:op≠2)(g:t.size<=2000)(h:a.size<=2000)(hb:b.size<=2000):fE (bN op k t a b) pl r p st l=.inl (p,st,l,((bN op k t a b).reverse++r)):=by unfold fE;rw[wU op k t a b h1 f h2 g h hb];rfl
theorem EK (k:Nat)(t x ZT:ByteArray)(r:List ByteArray)(y:Nat->aB)(n place st looks:Nat):gv y n place st looks (bZ 2 k t place looks (x::ZT::r))=fE (bN 2 k t x ZT) (dw place) r (place+1) st looks:=by
 unfold fE;simp only[bZ,bN,Q9,SY,PF,KO];by_cases h:ZT.size+x.size<=2000;{rw[nL h,nL (by simpa using h)];rfl};{rw[eT h,eT (by simpa using h)];rfl}
theorem vd (op:Nat)(y:Nat->aB)(n place st looks:Nat)(x:ByteArray)(r:List ByteArray)(b:Bool)(hb:((op:Int) == 12)=b):gv y n place st looks (gC b x r place looks)=iN y n op (dw place) x r (place+1) st looks:=by
 unfold gC iN;rw[hb];by_cases h1:aA x=ZA;{rw[nL h1,nL h1];rfl};{rw[eT h1,eT h1];by_cases h2:looks=200;{rw[nL h2,nL h2];rfl};{rw[eT h2,eT h2];rfl}}
theorem Au (l r:List ByteArray):strs (l++r)=strs r++strs l:=by simp[strs]
def j5 (op:Nat)(s:List ByteArray):ByteArray:=if 0<aJ op then s.getD 0 ⟨#[]⟩ else ⟨#[]⟩
def pk (op:Nat)(s:List ByteArray):ByteArray:=if 1<aJ op then s.getD 1 ⟨#[]⟩ else ⟨#[]⟩
def lA (op k:Nat)(a:ByteArray)(place:Nat):Nat:=if op=10 then k else if op=11/\(a.toList=[]∨(a.toList == [48])=ZF) then k else place+1
theorem FF{k place:Nat}{ZS:ByteArray}(h:op=10∨op=11/\ZS.toList.isEmpty=ZF∨op=11/\(ZS.toList == [48])=ZF):lA op k ZS place=k:=by
 unfold lA;rcases h with rfl|⟨rfl,h⟩|⟨rfl,h⟩
 {rfl};{rw[eT (by omega),nL ⟨rfl,.inl (List.isEmpty_iff.1 h)⟩]};{rw[eT (by omega),nL ⟨rfl,.inr h⟩]}
theorem Dt (op:Nat)(ZS:ByteArray)(h:op<=15):op=15∨op=14∨op=12∨op=13∨op=10∨(op=11/\ZS.toList.isEmpty=ZF)∨(op=11/\ZS.toList.isEmpty=ZA/\(ZS.toList == [48])=ZF)∨(op=11/\ZS.toList.isEmpty=ZA/\(ZS.toList == [48])=ZA)∨op<=9:=by
 by_cases e:op=11;{subst e;cases ZS.toList.isEmpty<;>cases (ZS.toList == [48])<;>simp};{omega}
theorem sL (h:∀x∈s,x.size<=2000)(op:Nat):(j5 op s).size<=2000/\(pk op s).size<=2000:=by
 have g:∀j,(s.getD j ⟨#[]⟩).size<=2000:=λj=>by
  rw[JB];rcases hj:s[j]? with _|x;{exact IH _};{exact h x (JF hj)}
 refine⟨?_,?_⟩;{unfold j5;split;{exact g 0};{exact IH _}};{unfold pk;split;{exact g 1};{exact IH _}}
theorem Av (op k:Nat)(t:ByteArray)(s:List ByteArray)(y:Nat->aB)(n place st looks:Nat)(h1:1<=op)(f:op<=11)(hb:aJ op<=s.length)(g:t.size<=2000)(b:∀x∈s,x.size<=2000):gv y n place st looks (bZ op k t place looks s)=fE (bN op k t (j5 op s) (pk op s)) (dw place) (s.drop (aJ op)) (lA op k (j5 op s) place) st looks:=by
 have h:=(sL b op).1;have i:=(sL b op).2;by_cases h2:op=2
 ·subst h2;match s,hb with
  |x::ZT::r,_=>exact EK k t x ZT r y n place st looks
 ·rw[wV op k t _ _ _ _ _ _ _ h1 f h2 g h i];rcases(show op=1∨op=3∨op=4∨op=5∨op=6∨op=7∨op=8∨op=9∨op=10∨op=11 by omega) with rfl|rfl|rfl|rfl|rfl|rfl|rfl|rfl|rfl|rfl;{rfl};iterate 3
   ·match s,hb with
    |x::r,_=>rfl
  ·match s,hb with
   |x::ZT::r,_=>rfl
  ·match s,hb with
   |x::r,_=>rfl
  ·match s,hb with
   |x::ZT::r,_=>rfl
  ·match s,hb with
   |x::r,_=>rfl
  {rfl}
  ·match s,hb with
   |x::r,_ =>show gv y n place st looks (bZ 11 k t place looks (x::r))=.inl (lA 11 k x place,st,looks,r);simp only[bZ,gv,lA,show((11:Nat)=10)=False by simp,P2,P6]
theorem Du (op k:Nat)(t:ByteArray)(s:List ByteArray)(y:Nat->aB)(n place st looks:Nat)(h:op=12∨op=13)(hb:aJ op<=s.length):gv y n place st looks (bZ op k t place looks s)=iN y n op (dw place) (j5 op s) (s.drop (aJ op)) (place+1) st looks:=by
 rcases h with rfl|rfl
 ·match s,hb with
  |x::r,_=>exact vd 12 y n place st looks x r ZF rfl
 ·match s,hb with
  |x::r,_=>exact vd 13 y n place st looks x r ZA rfl
theorem ve (op k:Nat)(t:ByteArray)(s:List ByteArray)(y:Nat->aB)(n place st looks:Nat)(h:op=14∨op=15)(hb:aJ op<=s.length):gv y n place st looks (bZ op k t place looks s)=.inr (.inl (15 - (op:Int),j5 op s,st)):=by
 rcases h with rfl|rfl
 ·match s,hb with
  |x::r,_=>rfl
 ·match s,hb with
  |x::r,_=>rfl
def gZ (f:Nat->aj)(l:Link):aB :=
 if l.ask=ZF then
  (if (f l.G.toNat).H=1 then ⟨ZF,0,(f l.G.toNat).y⟩ else if (f l.G.toNat).H=3 then ⟨ZF,(f l.G.toNat).E,(f l.G.toNat).y⟩ else ⟨ZA,0,⟨#[]⟩⟩)
 else ⟨l.has,0,⟨#[]⟩⟩
def yOf (f:Nat->aj)(p:Nat)(k:Nat):aB:=gZ f ((f p).u k)
def cQ (f:Nat->aj)(p k:Nat):Turn:=bT (f p).D (f p).m (yOf f p) k 2001 0 0 0 []
def eI (f:Nat->aj)(p k:Nat):Bool:=(cQ f p k).ak || !((cQ f p k).e.toList == ((f p).u k).e.toList) || !((cQ f p k).ask == ((f p).u k).ask)
def eZ (f:Nat->aj)(p:Nat):Nat->Nat->Nat
 |0,k=>k
 |j+1,k=>if eI f p k=ZF then k else eZ f p j (k+1)
def fi (f:Nat->aj)(p:Nat):Nat:=eZ f p (f p).l 0
def gD (f:Nat->aj)(p:Nat):Int :=
 if fi f p<(f p).l then 4 else if (cQ f p (fi f p)).ak=ZA then 4 else if (cQ f p (fi f p)).E=(f p).E/\(cQ f p (fi f p)).y.toList=(f p).y.toList then 0 else 5
def codeF (f:Nat->aj)(p:Nat):Int:=if (f p).H=3 then gD f p else 0
def wW (f:Nat->aj):Nat->Int × Int
 |0=>(0,0)
 |k+1=>if (wW f k).1=0 then (if codeF f k=0 then (0,0) else (codeF f k,(k:Int))) else wW f k
theorem sM (f:Nat->aj)(p:Nat):∀j k,k<=eZ f p j k/\eZ f p j k<=k+j
 |0,k=>⟨nX _,nX _⟩
 |j+1,k=>by
  rw[eZ];split
  ·omega
  ·have:=sM f p j (k+1)
   omega
theorem Aw{k:Nat}(h:eI f p k=ZA):eZ f p (j+1) k=eZ f p j (k+1):=by rw[eZ,eT (by rw[h];simp)]
theorem Ax{k:Nat}(h:eI f p k=ZF):eZ f p (j+1) k=k:=by rw[eZ,nL h]
theorem Fw (b:∀i,i<n->codeF f i=0):wW f n=(0,0):=by
 induction n with
 |zero=>rfl
 |succ m g=>rw[wW,g λi hi=>b i (by omega),nL rfl,nL (b m (by omega))]
theorem fa (h:bK f n=ZF):∀p,p<n->(f p).y.size<=2000/\((f p).H=1/\(f p).E=0∨(f p).H=2/\(f p).E=0/\(f p).y.size=0∨(f p).H=3/\0<=(f p).E/\(f p).E<=5/\valid (f p).D (f p).m=ZF/\(f p).l<=200):=by
 intro p g;have h1:=dL (fx h).2.2 p g;simp only[bc,p6,kindOk,xT] at h1;obtain⟨⟨_,i⟩,h2⟩:=h1;refine⟨i,?_⟩;split at h2;{rename_i b;simp only[aN,p6,xT] at h2;exact .inl ⟨b,h2.1.1⟩};{split at h2;{rename_i b;simp only[aN,p6,xT] at h2;exact .inr (.inl ⟨b,h2.1.1.1,h2.2⟩)};{split at h2;{rename_i b;simp only[bV,p6,xT] at h2;exact .inr (.inr ⟨b,h2.1.1.1.1,h2.1.1.1.2,h2.1.1.2,h2.1.2⟩)};{simp at h2}}}
theorem Dv (h:bK f n=ZF){l:Link}(g:l.ask=ZF->l.G.toNat<n):ci (gZ f l)=ZF:=by
 unfold gZ ci;split;{rename_i b;obtain⟨h1,h2⟩:=fa h _ (g b);split;{simp;omega};{split;{rename_i hk1 hk3;rcases h2 with h2|h2|h2;{omega};{omega};{simp;omega}};{exact LD ⟨IH _,by decide,by decide⟩}}};{exact LD ⟨IH _,TU _,show(0:Int)<=7 by decide⟩}
theorem sN{k:Nat}(h:∀i,i<k->ci (y i)=ZF):bE y k=ZF:=by
 induction k with
 |zero=>rfl
 |succ k b=>rw[bE,b λi hi=>h i (by omega),h k (by omega)];rfl
theorem yp (h:bK f n=ZF){l:Link}(i:l.ask=ZF)(j:l.G.toNat<n):gZ f l=⟨decide (¬ (f l.G.toNat).H=2),(f l.G.toNat).E,(f l.G.toNat).y⟩:=by
 obtain⟨h1,h2⟩:=fa h _ j;unfold gZ;rw[nL i];rcases h2 with ⟨b,g⟩|⟨b,g,m⟩|⟨b,g⟩
 {rw[nL b,b,g];rfl};{rw[eT (by omega),eT (by omega),b,g];have:(f l.G.toNat).y=⟨#[]⟩:=T0 (NF m);rw[this];rfl};{rw[eT (by omega),nL b,b];rfl}
theorem lB (o b n cap:Nat)(f:Nat->aj)(l:Link)(w:M)(i:RowDeed w o b n f)(s:l.ask=ZF->0<=l.G/\l.G.toNat<n):Calls Pg 107 #[ZG #[Y (T (N o b Z)) n cap],ZG #[U l.e,ZC l.ask,ZC l.has,Q I l.G]] w λe w'=>e=ZD (ZG #[ZC (gZ f l).has,Q I (gZ f l).E,U (gZ f l).y])/\Below (B (A w)) w w':=by
 have t:=ae i;have r:=ae s;have j:=ae (show gZ f l=if l.ask=ZF then (if (f l.G.toNat).H=1 then ⟨ZF,0,(f l.G.toNat).y⟩ else if (f l.G.toNat).H=3 then ⟨ZF,(f l.G.toNat).E,(f l.G.toNat).y⟩ else ⟨ZA,0,⟨#[]⟩⟩) else ⟨l.has,0,⟨#[]⟩⟩ from rfl);clear i s;obtain⟨R,hR⟩:∃R,R=gZ f l:=⟨_,rfl⟩
 rw[<-hR] at j ⊢;clear hR;obtain⟨nm,ask,q,at_⟩:=l;dsimp only at r j ⊢;have x:=ae ((((BS w).alloc ly (J #[Y (T (N o b Z)) n cap] 37)).alloc (by simp) (J #[U nm,ZC ask,ZC q,Q I at_] 91)).alloc (by simp;omega) (J #[ZC ZA,Q I 0,U ⟨#[]⟩] 166));cases ask with
 |false =>
  obtain rfl:R=⟨q,0,⟨#[]⟩⟩:=by have:=j.out;simpa using this
  dsimp only;go_enter func107,ntmps107;go_wp2
  exact bp (v:=ZG #[ZC q,Q I 0,U ⟨#[]⟩]) (by simp[results,SG,go_sem]) rfl ⟨rfl,by
   repeat (first|exact cM _ _|refine N5 ?_ (by simp<;>omega) _)⟩
 |true =>
  obtain⟨h1,h2⟩:=r.out rfl;obtain⟨p,rfl⟩:=AT h1;have ZT:p<n:=by simpa using h2
  have g:=ae (show R=if (f p).H=1 then ⟨ZF,0,(f p).y⟩ else if (f p).H=3 then ⟨ZF,(f p).E,(f p).y⟩ else ⟨ZA,0,⟨#[]⟩⟩ by have:=j.out;simpa using this);clear j;obtain⟨p0,p1,p2,p3,⟨a2,cap2,p4,u⟩,⟨a3,cap3,p5,y⟩⟩:=(t.out.aa x.out ly).2 p ZT;clear u y r;have hpn:(p:Int)<n:=by omega
  go_enter func107,ntmps107;by_cases h:(f p).H=1
  ·obtain rfl:R=⟨ZF,0,(f p).y⟩:=by rw[g.out,nL h]
   go_wp2
   exact bp (v:=ZG #[ZC ZF,Q I 0,U (f p).y]) (by simp[results,SG,go_sem]) rfl ⟨rfl,by
    repeat (first|exact cM _ _|refine N5 ?_ (by simp<;>omega) _)⟩
  ·by_cases m:(f p).H=3
   ·obtain rfl:R=⟨ZF,(f p).E,(f p).y⟩:=by rw[g.out,eT h,nL m]
    go_wp2
    exact bp (v:=ZG #[ZC ZF,Q I (f p).E,U (f p).y]) (by simp[results,SG,go_sem]) rfl ⟨rfl,by
     repeat (first|exact cM _ _|refine N5 ?_ (by simp<;>omega) _)⟩
   ·obtain rfl:R=⟨ZA,0,⟨#[]⟩⟩:=by rw[g.out,eT h,eT m]
    go_wp2
    exact bp (v:=ZG #[ZC ZA,Q I 0,U ⟨#[]⟩]) (by simp[results,SG,go_sem]) rfl ⟨rfl,by
     repeat (first|exact cM _ _|refine N5 ?_ (by simp<;>omega) _)⟩
