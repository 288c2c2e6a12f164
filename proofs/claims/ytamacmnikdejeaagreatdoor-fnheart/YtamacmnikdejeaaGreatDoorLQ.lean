import Derived.Test.YtamacmnikdejeaaGreatDoorLN
import Derived.Deep.WholeRow
import Derived.Deep.DeepCutAuto
set_option maxRecDepth 1000000
set_option maxHeartbeats 8000000
set_option linter.unusedSimpArgs false
open Go renaming Addr.mk->Q,Value.slice->Y,Value.string->U,Value.int->J,Value.bool->ZC,Value.agg->ZG,Obj.cells->N,IntKind.i64->I,World->E,Value->ZB,TypeId->ZH,Ending.returned->ZF,World.heap->B,World.cell?->A,Proofs.Tryz.prog->Pg
open Option renaming none->Z,some->T
open Bool renaming false->ZA,true->ZD
open Array renaming size->z
namespace Go.Proofs.YtamacmnikdejeaaGreatDoor.Vp
open Tryz RowKit
variable {n g b ZS j base p l cap:Nat}{w u w':E}{e:ZH}{m:Mst}{f:Nat->au}{s r:List ByteArray}{y:Nat->aC}{x:ByteArray}{H:Halt}{t:Turn}{i:List ZB}
theorem Cj (w b:E)(f:Array ZB)(ty:ZH)(ZL:Obj)(j:Nat)(v:ZB)(hz:z (B b)=z (B w))(g:f[j]?=T v):((b.alloc (N f ty)).alloc ZL).cell? (Q (z (B w)) j Z)=T v:=by rw[<-hz,((cM (b.alloc (N f ty)).heap.size _).alloc ly ZL).cell (p:=(Q (z (B b)) j Z)) (by simp)];simp[g]
def jS (m:Mst)(c:Int):Turn:=⟨ZD,c,m.t.e,ZA,⟨#[]⟩,m.j⟩
theorem zK{f:ZB}(hM:MAt w b f m)(x:Bool)(c:Int)(t:ByteArray):∃W,(((((((w.setCell (Q b 55 Z) (ZC ZA)).setCell (Q b 56 Z) (J I 0)).setCell (Q b 57 Z) (U ⟨#[]⟩)).setCell (Q b 58 Z) (ZC ZA)).setCell (Q b 59 Z) (U ⟨#[]⟩)).setCell (Q b 60 Z) (J I 0)).alloc (N #[ZC x,J I c,U t] 156)).alloc (N #[ZC m.t.K,J I m.t.M,U m.t.H,ZC m.t.ask,U m.t.e,J I m.t.j] 150)=W/\MAt W b f { m with t:=cU }/\Only b w W/\A W (Q (z (B w)) 0 Z)=T (ZC x)/\A W (Q (z (B w)) 1 Z)=T (J I c)/\A W (Q (z (B w)) 2 Z)=T (U t)/\A W (Q (z (B w)+1) 3 Z)=T (ZC m.t.ask)/\A W (Q (z (B w)+1) 4 Z)=T (U m.t.e)/\(z (B W))=z (B w)+2 :=
 ⟨_,rfl,((hM.setTurn cU).al _).al _,((Ep (Only.refl b w) cU).al _).al _,Cj w _ _ _ _ _ _ (by simp) rfl,Cj w _ _ _ _ _ _ (by simp) rfl,Cj w _ _ _ _ _ _ (by simp) rfl,jO _ _ _ _ _ _ (by simp) rfl,jO _ _ _ _ _ _ (by simp) rfl,by simp⟩
def mB (m:Mst)(x:Bool)(c:Int)(t:ByteArray):Mst :=
 if m.t.ask=ZA then { m with t:=cU,S:=upd m.S m.size (ez x),size:=m.size+1 } else if x=ZA then { m with t:=jS m 4 } else if (c == 0)=ZA then { m with t:=jS m 5 } else { m with t:=cU,S:=upd m.S m.size t,size:=m.size+1 }
theorem Ck{u:Mst}{x:Bool}{c:Int}{t:ByteArray}(h:u=mB m x c t):(m.t.ask=ZA/\u={ m with t:=cU,S:=upd m.S m.size (ez x),size:=m.size+1 })∨(m.t.ask=ZD/\x=ZA/\u={ m with t:=jS m 4 })∨(m.t.ask=ZD/\x=ZD/\(c == 0)=ZA/\u={ m with t:=jS m 5 })∨(m.t.ask=ZD/\x=ZD/\c=0/\u={ m with t:=cU,S:=upd m.S m.size t,size:=m.size+1 }):=by unfold mB at h;cases ha:m.t.ask<;>cases x<;>cases hc:(c == 0)<;>simp_all
theorem iK (b:Nat)(i:ZB)(m:Mst)(x:Bool)(c:Int)(t:ByteArray)(w:E)(hM:MAt w b i m)(K:m.size<50):Calls Pg 167 #[.pointer (T (Q b 0 Z)),ZG #[ZC x,J I c,U t]] w λe w'=>e=ZF (.tuple #[])/\MAt w' b i (mB m x c t)/\Only b w w':=by
 obtain⟨u,s⟩:∃u,u=mB m x c t:=⟨_,rfl⟩
 rw[<-s];have D:=ae (Ck s);clear s;have hlt:=hM.lt;obtain⟨⟨c5,ZQ⟩,⟨M,ZO⟩,⟨P,L⟩,⟨O,ZN⟩,⟨H,ZP⟩,ZR,C⟩:=hM.turn;obtain⟨W,ZS,p,l,q0,q1,q2,G,p4,hz⟩:=zK hM x c t;have ZT:=ae ZS;have h:=ae p;have n:=ae l;clear hM ZS p l;go_enter func167,ntmps167;go_upto_region 4 with fail;rw[ZT.out];clear ZT c5 M P O H ZR ZQ ZO L ZN ZP C;have hz0:z (B w)<z (B W):=by omega
 have hz1:z (B w)+1<z (B W):=by omega
 clear hz;rcases D.out with ⟨j,rfl⟩|⟨j,rfl,rfl⟩|⟨j,rfl,hc,rfl⟩|⟨j,rfl,rfl,rfl⟩
 all_goals
  rw[j] at G;clear D;go_wp2_with (go_at_call 192;refine(jY b i { m with t:=cU } _ _ _ h).mono ?_;rintro e r ⟨rfl,g,f⟩;have o:=ae g;have q:Hid (Only b w r):=n.trans f;clear g f)
  (try go_region_with (first|(go_at_call 191;refine(mz _ _).mono ?_;rintro e w1 ⟨rfl,y⟩;subst y)|(go_at_call 190;refine(qi b i { m with t:=cU } _ _ ?_ K).mono ?_;(first|exact h|exact h.drew|exact h.drew.drew);rintro e r ⟨rfl,g,f⟩;have o:=ae g;have q:Hid (Only b w r):=Only.trans (by repeat (first|exact n|apply Only.drew)) f;clear g f)))
  all_goals
   (try go_wp2)
   refine mc rfl rfl ?_;exact⟨rfl,o,q⟩
theorem yc (b:Nat)(f:ZB)(m:Mst)(x:Bool)(c:Int)(t:ByteArray)(w:E)(hM:MAt w b f m)(g:m.t.ask=ZA)(i:m.size<50):Calls Pg 167 #[.pointer (T (Q b 0 Z)),ZG #[ZC x,J I c,U t]] w λe w'=>e=ZF (.tuple #[])/\MAt w' b f { m with t:=cU,S:=upd m.S m.size (ez x),size:=m.size+1 }/\Only b w w':=by have h:=iK b f m x c t w hM i;rwa[mB,j6 g] at h
theorem yd (b:Nat)(f:ZB)(m:Mst)(t:ByteArray)(w:E)(hM:MAt w b f m)(g:m.t.ask=ZD)(i:m.size<50):Calls Pg 167 #[.pointer (T (Q b 0 Z)),ZG #[ZC ZD,J I 0,U t]] w λe w'=>e=ZF (.tuple #[])/\MAt w' b f { m with t:=cU,S:=upd m.S m.size t,size:=m.size+1 }/\Only b w w':=by have h:=iK b f m ZD 0 t w hM i;rwa[mB,eT (by simp[g]),eT (by simp),eT (by simp)] at h
theorem qF (b:Nat)(f:ZB)(m:Mst)(c:Int)(t:ByteArray)(w:E)(hM:MAt w b f m)(g:m.t.ask=ZD)(i:m.size<50):Calls Pg 167 #[.pointer (T (Q b 0 Z)),ZG #[ZC ZA,J I c,U t]] w λe w'=>e=ZF (.tuple #[])/\MAt w' b f { m with t:=jS m 4 }/\Only b w w':=by have h:=iK b f m ZA c t w hM i;rwa[mB,eT (by simp[g]),j6 rfl] at h
theorem ud (b:Nat)(f:ZB)(m:Mst)(c:Int)(t:ByteArray)(w:E)(hM:MAt w b f m)(i:m.t.ask=ZD)(g:(c == 0)=ZA)(j:m.size<50):Calls Pg 167 #[.pointer (T (Q b 0 Z)),ZG #[ZC ZD,J I c,U t]] w λe w'=>e=ZF (.tuple #[])/\MAt w' b f { m with t:=jS m 5 }/\Only b w w':=by have h:=iK b f m ZD c t w hM j;rwa[mB,eT (by simp[i]),eT (by simp),j6 g] at h
def m0:Mst:={ S:=λ_=>⟨#[]⟩,size:=0,ao:=0,j:=0,looks:=0,t:=cU }
def fa (b:ZB):Array ZB:=(Array.range 61).map (m0.F b)
theorem zL (a:Option Addr)(n cap:Nat):Pg.built 253 [(1,Y a n cap)]=T (fa (Y a n cap)):=by kernel_rfl
theorem infoM:(Pg.info? 253).map (·.size)=T 61:=by kernel_rfl
theorem iL (b:ZB):(fa b).size=61:=by simp[fa]
theorem Cl (b:ZB)(j:Nat)(h:j<61):(fa b)[j]?=T (m0.F b j):=by simp[fa,h]
theorem rE (a:Option Addr)(n cap:Nat):(fa (Y a n cap)).all (·.oneCell')=ZD:=by kernel_rfl
theorem ue (w:E)(a:Option Addr)(n cap:Nat):MAt (w.alloc (N (fa (Y a n cap)) 253)) (z (B w)) (Y a n cap) m0:=by
 refine⟨by simp,λj b=>⟨?_,?_⟩⟩;{rw[World.cell?_alloc_new];exact Cl _ j b};{simp}
theorem ug{P:Program}{f:Array Oper}{rest:List Oper}{o:Oper}{a:Act}{ZM:Exit->Act->E->Prop}(j:o.guard=Z)(t:ZH)(b:Array (Nat × Operand))(m:o.op=.build t b)
  (l:List (Nat × ZB)) (cells:Array ZB) (g:(b.map λ(i,x)=>(i,a.eval x)).toList=l) (hb:P.built t l=T cells) (h:wpList P f ZM rest (a.put o.dst (ZG cells)) w):wpList P f ZM (o::rest) a w:=by
 refine wpList_build j t b m (by rw[g,hb];rfl) ?_;rw[g,hb];exact h
theorem Pow.lt (h:Pow w):2<z (B w):=by
 have f:=PL gPow h 0;rcases MG 2 (z (B w)) with b|b;{exact b};{simp[World.cell?,MS b,Lib.pow10Tab] at f}
theorem Sim.push{st:Nat}(b:Sim m p st l s)(x:ByteArray)(f:x.size<=2000)(hl:s.length<50):Sim { m with t:=cU,S:=upd m.S m.size x,size:=m.size+1 } p st l (x::s) :=
 ⟨by rw[b.size];exact b.rep.push x,by simp[b.size],by simp;omega,b.hpl,b.hst,b.hlk,λZR hz=>by
  rcases A9.1 hz with rfl|hz
  ·exact f
  ·exact b.le ZR hz,b.pl,b.st,b.lk⟩
theorem iM (b:Bool):(ez b).size<=2000:=by cases b<;>decide
def Six (w:E)(g:Nat):Prop:=g<z (B w)/\∀j,j<6->∃v,A w (Q g j Z)=T v/\w.frozen? (Q g j Z)=ZA
theorem Six.aa{i:E}(h:Six w g)(b:Below ZS w i)(f:g<ZS):Six i g:=⟨lj h.1 b.size,λj l=>by
 obtain⟨v,h1,h2⟩:=h.2 j l
 exact⟨v,(b.cell (p:=(Q g j Z)) f).trans h1,(b.frozen (p:=(Q g j Z)) f).trans h2⟩⟩
theorem Six.ac{l:E}(h:Six w g)(f:Only b w l)(i:g≠b):Six l g:=⟨lj h.1 f.size,λj m=>by
 obtain⟨v,h1,h2⟩:=h.2 j m
 exact⟨v,(f.cell g j h.1 i).trans h1,(f.frozen g j h.1 i).trans h2⟩⟩
theorem ke (w:E)(v0 v1 v2 v3 v4 v5:ZB)(t:ZH):Six (w.alloc (N #[v0,v1,v2,v3,v4,v5] t)) (z (B w)):=⟨by simp,λj hj=>by
 rcases(show j=0∨j=1∨j=2∨j=3∨j=4∨j=5 by omega) with rfl|rfl|rfl|rfl|rfl|rfl
 all_goals exact⟨_,by simp;rfl,by simp⟩⟩
theorem fG (h:Below ZS u w)(b:ZS<=g)(v0 v1 v2 v3 v4 v5:ZB):Below ZS u ((((((w.setCell (Q g 0 Z) v0).setCell (Q g 1 Z) v1).setCell (Q g 2 Z) v2).setCell (Q g 3 Z) v3).setCell (Q g 4 Z) v4).setCell (Q g 5 Z) v5) :=
 (((((h.setCell b v0).setCell b v1).setCell b v2).setCell b v3).setCell b v4).setCell b v5
def Goes (f:Nat->Ins)(cnt:Nat)(m:Mst)(H:Halt):Prop:=(m.t=cU/\∃p k l s,Sim m p k l s/\li f cnt (2001 - k) p k l s=T H)∨eK m H
def badT:Turn:=⟨ZA,9,⟨#[]⟩,ZA,⟨#[]⟩,0⟩
def nu (f:Nat->Ins)(cnt:Nat)(y:Nat->aC)(n:Nat):Turn:=if valid f cnt=ZA then badT else if 200<n then badT else if bS y n=ZA then badT else bZ f cnt y n 2001 0 0 0 []
theorem oH{f:Nat->Ins}{cnt:Nat}{st:Nat}(g:m.t=cU)(b:Sim m p st l s):∃H,Goes f cnt m H/\gi l H/\∀y n,ed f cnt y n H=bZ f cnt y n (2001 - st) p st l s:=by obtain⟨H,hH⟩:=rD f cnt (2001 - st) p st l s b.st (by have:=b.st;omega);exact⟨H,.inl ⟨g,p,st,l,s,b,hH⟩,(oG f cnt (λ_=>⟨ZA,0,⟨#[]⟩⟩) 0 _ p st l s H b.st rfl hH).2,λy n=>(oG f cnt y n _ p st l s H b.st rfl hH).1.symm⟩
theorem vH (b:Nat)(q:ZB)(f:Nat->Ins)(cnt:Nat)(m:Mst)(a:Bool)(nm:ByteArray)(s:List ByteArray)(p st l:Nat)(r:aC)(w:E)(hM:MAt w b q m)(H:eK m (.inr (a,nm,s,p,st,l)))(hl:1<=l)(ZP:r.H.size<=2000):Calls Pg 167 #[.pointer (T (Q b 0 Z)),ZG #[ZC r.has,J I r.M,U r.H]] w λe w'=>e=ZF (.tuple #[])/\∃G j,MAt w' b q G/\Goes f cnt G j/\gi l j/\(∀y n,l<=n->y (l - 1)=r->ed f cnt y n (.inr (a,nm,s,p,st,l))=ed f cnt y n j)/\Only b w w':=by
 obtain⟨ZQ,u,hnm,ZT⟩:=H;have x:m.t.ask=a:=by rw[ZQ]
 have ZR:m.t.e=nm:=by rw[ZQ]
 have hz:m.size<50:=by rw[u.size];exact ZT
 cases a with
 |false =>refine(yc b q m r.has r.M r.H w hM x hz).mono ?_;rintro e w' ⟨rfl,g,h⟩;obtain⟨j,ZS,D,C⟩:=oH (f:=f) (cnt:=cnt) (m:={ m with t:=cU,S:=upd m.S m.size (ez r.has),size:=m.size+1 }) rfl (u.push (ez r.has) (iM _) ZT);refine⟨rfl,_,j,g,ZS,D,λy n hn i=>?_,h⟩;rw[C y n];simp only[ed,i];rw[eT (by omega),j6 trivial]
 |true =>
  by_cases h1:r.has=ZA;{rw[h1];refine(qF b q m r.M r.H w hM x hz).mono ?_;rintro e w' ⟨rfl,g,h⟩;refine⟨rfl,_,.inl (4,nm,st),g,.inr ?_,trivial,λy n hn i=>?_,h⟩;{show jS m 4=_;simp only[jS,ZR,u.hst]};{simp only[ed,i];rw[eT (by omega)];simp[h1]}}
  ·have o:r.has=ZD:=by simpa using h1
   by_cases h2:r.M=0;{rw[o,h2];refine(yd b q m r.H w hM x hz).mono ?_;rintro e w' ⟨rfl,g,h⟩;obtain⟨j,ZS,D,C⟩:=oH (f:=f) (cnt:=cnt) (m:={ m with t:=cU,S:=upd m.S m.size r.H,size:=m.size+1 }) rfl (u.push r.H ZP ZT);refine⟨rfl,_,j,g,ZS,D,λy n hn i=>?_,h⟩;rw[C y n];simp only[ed,i];rw[eT (by omega)];simp[o,h2]};{rw[o];refine(ud b q m r.M r.H w hM x (by simpa using h2) hz).mono ?_;rintro e w' ⟨rfl,g,h⟩;refine⟨rfl,_,.inl (5,nm,st),g,.inr ?_,trivial,λy n hn i=>?_,h⟩;{show jS m 5=_;simp only[jS,ZR,u.hst]};{simp only[ed,i];rw[eT (by omega)];simp[o,h2]}}
theorem zN (g f cnt cap:Nat)(w:E):Calls Pg 136 #[ZG #[Y (T (Q g f Z)) cnt cap]] w λe w'=>∃b,e=ZF (.func (.func 166) #[] #[.pointer (T (Q b 0 Z))])/\(z (B w))<=b/\MAt w' b (Y (T (Q g f Z)) cnt cap) m0/\Below (z (B w)) w w':=by
 have i:=ae ((BS w).alloc ly (N #[Y (T (Q g f Z)) cnt cap] 43));have k0:(w.alloc (N #[Y (T (Q g f Z)) cnt cap] 43)).cell? (Q (z (B w)) 0 Z)=T (Y (T (Q g f Z)) cnt cap):=by simp
 have z0:(w.alloc (N #[Y (T (Q g f Z)) cnt cap] 43)).heap.size=z (B w)+1:=by simp
 have j:=ae (ue (w.alloc (N #[Y (T (Q g f Z)) cnt cap] 43)) (T (Q g f Z)) cnt cap);have h:=ae (by have:=j.out;rw[z0] at this;exact this);have l:=ae (i.alloc i.size (N (fa (Y (T (Q g f Z)) cnt cap)) 253));go_enter func136,ntmps136
 go_wp2_with (first
  |(refine ug rfl 253 #[(1,.tmp 5)] rfl [(1,Y (T (Q g f Z)) cnt cap)] (fa (Y (T (Q g f Z)) cnt cap)) (by simp[Act.eval]) (zL _ _ _) ?_)
  |(refine wpList_store_row rfl 253 (.tmp 3) (.tmp 6) rfl (z (B w)+1) (fa (Y (T (Q g f Z)) cnt cap)) rfl rfl _ _ (by rw[<-z0];exact heap_alloc_last _ _) (infoM.trans (by rw[iL])) (by rw[iL];rfl) (rE _ _ _) ?_;rw[<-z0,World.setRow_alloc_new])
  |fail)
 go_ret;exact⟨_,rfl,by first|(simp;done)|(simp;omega),h,l⟩
theorem pM (b o n cnt cap:Nat)(f:Nat->Ins)(m:Mst)(H:Halt)(r:aC)(w:E)(hM:MAt w b (Y (T (Q o n Z)) cnt cap) m)(ZQ:Env w b o n cnt f)(hn:m.t.e=⟨#[]⟩)(R:cnt<=200)(ZS:cY f cnt=ZD)(C:Goes f cnt m H):Calls Pg 166 #[ZG #[ZC r.has,J I r.M,U r.H],.pointer (T (Q b 0 Z))] w λe w'=>∃x,e=ZF x.t.v/\MAt w' b (Y (T (Q o n Z)) cnt cap) x/\eK x H/\Only b w w':=by
 have ZP:=hM.lt;have i:=ae ((hM.al (N #[ZC r.has,J I r.M,U r.H] 156)).al (N #[ZC ZA,J I 0,U ⟨#[]⟩,ZC ZA,U ⟨#[]⟩,J I 0] 150));have j:=ae (((Only.refl b w).al (N #[ZC r.has,J I r.M,U r.H] 156)).al (N #[ZC ZA,J I 0,U ⟨#[]⟩,ZC ZA,U ⟨#[]⟩,J I 0] 150));have l:=ke (w.alloc (N #[ZC r.has,J I r.M,U r.H] 156)) (ZC ZA) (J I 0) (U ⟨#[]⟩) (ZC ZA) (U ⟨#[]⟩) (J I 0) 150;rw[show(w.alloc (N #[ZC r.has,J I r.M,U r.H] 156)).heap.size=z (B w)+1 by simp] at l;have G:=ae l;have ZL:=ae ZQ;have X:=ae C;obtain⟨⟨c5,M⟩,⟨ZJ,P⟩,⟨c7,W⟩,⟨c8,z8⟩,⟨y,O⟩,ZT,L⟩:=i.turn;rw[hn] at y;clear hM ZQ C l c5 M ZJ P c7 W c8 z8 O ZT L;go_enter func166,ntmps166;go_wp2_with fail;clear y;generalize World.alloc (World.alloc w _) _=W0 at i j G ⊢;have hb0:b<z (B W0):=i.lt;refine(wH b o n cnt cap f m H _ i (ZL.ac ZP j) R ZS X).mono ?_;rintro e ZM ⟨g,rfl,p,s,q⟩;have u:=ae q;clear q;have D:=ae (G.ac u (by omega));have hx3:z (B w)+1<z (B ZM):=D.1;have ZR:=ae p;have K:=ae s;have ZO:=ae (j.trans u);clear p s;obtain⟨⟨v0,S,y0⟩,⟨v1,q1,y1⟩,⟨v2,q2,y2⟩,⟨v3,V,y3⟩,⟨v4,ZK,y4⟩,⟨v5,ZN,y5⟩⟩:=bl6 D.2;have h:z (B w)+1≠b:=by omega
 have ZI:=ae ((((((ZR.other (z (B w)+1) 0 (ZC g.t.K) h).other (z (B w)+1) 1 (J I g.t.M) h).other (z (B w)+1) 2 (U g.t.H) h).other (z (B w)+1) 3 (ZC g.t.ask) h).other (z (B w)+1) 4 (U g.t.e) h).other (z (B w)+1) 5 (J I g.t.j) h);have OO:=ae ((((((ZO.X (z (B w)+1) 0 (ZC g.t.K) (by omega)).X (z (B w)+1) 1 (J I g.t.M) (by omega)).X (z (B w)+1) 2 (U g.t.H) (by omega)).X (z (B w)+1) 3 (ZC g.t.ask) (by omega)).X (z (B w)+1) 4 (U g.t.e) (by omega)).X (z (B w)+1) 5 (J I g.t.j) (by omega));simp only[Turn.v];go_wp2;exact bp (v:=g.t.v) (by simp[results,results166,go_sem,Turn.v,S,q1,q2,V,ZK,ZN]) rfl ⟨g,rfl,ZI,K,OO⟩
theorem mC (b u ZR cnt cap:Nat)(f:Nat->Ins)(m:Mst)(a:Bool)(nm:ByteArray)(s:List ByteArray)(p st l:Nat)(r:aC)(w:E)(hM:MAt w b (Y (T (Q u ZR Z)) cnt cap) m)(hE:Env w b u ZR cnt f)(ZT:eK m (.inr (a,nm,s,p,st,l)))(hl:1<=l)(hr:r.H.size<=2000)(hc:cnt<=200)(X:cY f cnt=ZD):Calls Pg 166 #[ZG #[ZC r.has,J I r.M,U r.H],.pointer (T (Q b 0 Z))] w λe w'=>∃ZN o,e=ZF ZN.t.v/\MAt w' b (Y (T (Q u ZR Z)) cnt cap) ZN/\eK ZN o/\gi l o/\(∀y n,l<=n->y (l - 1)=r->ed f cnt y n (.inr (a,nm,s,p,st,l))=ed f cnt y n o)/\Only b w w':=by
 have bt:=hM.lt;have j:=ae ((hM.al (N #[ZC r.has,J I r.M,U r.H] 156)).al (N #[ZC ZA,J I 0,U ⟨#[]⟩,ZC ZA,U ⟨#[]⟩,J I 0] 150));have x:=ae (((Only.refl b w).al (N #[ZC r.has,J I r.M,U r.H] 156)).al (N #[ZC ZA,J I 0,U ⟨#[]⟩,ZC ZA,U ⟨#[]⟩,J I 0] 150));have q:=ke (w.alloc (N #[ZC r.has,J I r.M,U r.H] 156)) (ZC ZA) (J I 0) (U ⟨#[]⟩) (ZC ZA) (U ⟨#[]⟩) (J I 0) 150;rw[show(w.alloc (N #[ZC r.has,J I r.M,U r.H] 156)).heap.size=z (B w)+1 by simp] at q;have ZM:=ae q;have HE:=ae hE;have HS:=ae ZT;have ZS:m.t.e=nm:=by have:=ZT.1;rw[this]
 have i:nm.toList.isEmpty=ZA:=by
  have hn:=ZT.2.2.1;have h0:¬ nm.size=0:=by simp only[aB,nD,p6] at hn;omega
  have:=lY h0;cases h:nm.toList with
  |nil=>exact absurd h this
  |cons _ _=>rfl
 obtain⟨⟨c5,z5⟩,⟨c6,z6⟩,⟨c7,z7⟩,⟨c8,z8⟩,⟨ZI,z9⟩,W,S⟩:=j.turn;rw[ZS] at ZI;clear hM hE ZT q ZS c5 z5 c6 z6 c7 z7 c8 z8 z9 W S;go_enter func166,ntmps166;go_wp2_with fail;clear ZI i;generalize World.alloc (World.alloc w _) _=W0 at j x ZM ⊢;have hb0:b<z (B W0):=j.lt;refine(vH b (Y (T (Q u ZR Z)) cnt cap) f cnt m a nm s p st l r _ j HS hl hr).mono ?_;rintro e w1 ⟨rfl,m1,o,M,C,D,ZO,K⟩;have O:=ae M;have P:=ae C;have aq:=ae D;have R:=ae ZO;have H:=ae K;clear M C D ZO K;go_wp2_with fail;refine(wH b u ZR cnt cap f m1 o _ O (HE.ac bt (x.trans H)) hc X P).mono ?_;rintro e w3 ⟨g,rfl,ZP,L,ZQ⟩;have G:=ae (H.trans ZQ);clear ZQ;have ZJ:=ae (ZM.ac G (by omega));have hx3:z (B w)+1<z (B w3):=ZJ.1;have V:=ae ZP;have ZK:=ae L;have ZL:=ae (x.trans G);clear ZP L;obtain⟨⟨v0,q0,y0⟩,⟨v1,q1,y1⟩,⟨v2,q2,y2⟩,⟨v3,q3,y3⟩,⟨v4,q4,y4⟩,⟨v5,q5,y5⟩⟩:=bl6 ZJ.2;have i:z (B w)+1≠b:=by omega
 have MM:=ae ((((((V.other (z (B w)+1) 0 (ZC g.t.K) i).other (z (B w)+1) 1 (J I g.t.M) i).other (z (B w)+1) 2 (U g.t.H) i).other (z (B w)+1) 3 (ZC g.t.ask) i).other (z (B w)+1) 4 (U g.t.e) i).other (z (B w)+1) 5 (J I g.t.j) i);have OO:=ae ((((((ZL.X (z (B w)+1) 0 (ZC g.t.K) (by omega)).X (z (B w)+1) 1 (J I g.t.M) (by omega)).X (z (B w)+1) 2 (U g.t.H) (by omega)).X (z (B w)+1) 3 (ZC g.t.ask) (by omega)).X (z (B w)+1) 4 (U g.t.e) (by omega)).X (z (B w)+1) 5 (J I g.t.j) (by omega));simp only[Turn.v];go_wp2;exact bp (v:=g.t.v) (by simp[results,results166,go_sem,Turn.v,q0,q1,q2,q3,q4,q5]) rfl ⟨g,o,rfl,MM,ZK,aq,R,OO⟩
theorem nM{f:Nat->Ins}{cnt i:Nat}(b:eK m H)(hL:gi i H):ed f cnt y i H=m.t:=by
 rcases H with ⟨c,x,k⟩|⟨a,nm,s,p,k,l⟩
 {exact(show m.t=⟨ZD,c,x,ZA,⟨#[]⟩,k⟩ from b).symm};{have g:l=i+1:=hL;subst g;simp only[ed,NG];rw[j6 ly ];exact b.1.symm}
theorem nN (f:eK m H)(b:m.t.K=ZA):∃a nm s p k l,H=.inr (a,nm,s,p,k,l):=by
 rcases H with ⟨c,x,k⟩|⟨a,nm,s,p,k,l⟩
 {have:m.t=⟨ZD,c,x,ZA,⟨#[]⟩,k⟩:=f;rw[this] at b;simp at b};{exact⟨a,nm,s,p,k,l,rfl⟩}
def TurnBox (w:E)(g:Nat)(t:Turn):Prop:=g<z (B w)/\(A w (Q g 0 Z)=T (ZC t.K)/\A w (Q g 1 Z)=T (J I t.M)/\A w (Q g 2 Z)=T (U t.H)/\A w (Q g 3 Z)=T (ZC t.ask)/\A w (Q g 4 Z)=T (U t.e)/\A w (Q g 5 Z)=T (J I t.j))/\∀j,w.frozen? (Q g j Z)=ZA
theorem TurnBox.aa (h:TurnBox w g t)(hb:Below ZS w w')(b:g<ZS):TurnBox w' g t:=by obtain⟨h1,⟨c0,c1,c2,c3,c4,c5⟩,hz⟩:=h;exact⟨lj h1 hb.size,⟨(hb.cell (p:=(Q g _ Z)) b).trans c0,(hb.cell (p:=(Q g _ Z)) b).trans c1,(hb.cell (p:=(Q g _ Z)) b).trans c2,(hb.cell (p:=(Q g _ Z)) b).trans c3,(hb.cell (p:=(Q g _ Z)) b).trans c4,(hb.cell (p:=(Q g _ Z)) b).trans c5⟩,λj=>(hb.frozen (p:=(Q g j Z)) b).trans (hz j)⟩
theorem TurnBox.ac (h:TurnBox w g t)(f:Only b w w')(i:g≠b):TurnBox w' g t:=by obtain⟨h1,⟨c0,c1,c2,c3,c4,c5⟩,hz⟩:=h;exact⟨lj h1 f.size,⟨(f.cell g _ h1 i).trans c0,(f.cell g _ h1 i).trans c1,(f.cell g _ h1 i).trans c2,(f.cell g _ h1 i).trans c3,(f.cell g _ h1 i).trans c4,(f.cell g _ h1 i).trans c5⟩,λj=>(f.frozen g j h1 i).trans (hz j)⟩
theorem Cm (w:E)(t:Turn)(ty:ZH):TurnBox (w.alloc (N #[ZC t.K,J I t.M,U t.H,ZC t.ask,U t.e,J I t.j] ty)) (z (B w)) t :=
 ⟨by simp,⟨by simp,by simp,by simp,by simp,by simp,by simp⟩,λj=>by simp⟩
def eN (w:E)(g:Nat)(t:Turn):E:=(((((w.setCell (Q g 0 Z) (ZC t.K)).setCell (Q g 1 Z) (J I t.M)).setCell (Q g 2 Z) (U t.H)).setCell (Q g 3 Z) (ZC t.ask)).setCell (Q g 4 Z) (U t.e)).setCell (Q g 5 Z) (J I t.j)
theorem Fb{u:Turn}(t:Turn)(h:TurnBox w g u):TurnBox (eN w g t) g t:=by obtain⟨h1,⟨c0,c1,c2,c3,c4,c5⟩,hz⟩:=h;refine⟨by simpa[eN] using h1,⟨?_,?_,?_,?_,?_,?_⟩,λj=>by simpa[eN] using hz j⟩;all_goals simp[eN,go_sem,c0,c1,c2,c3,c4,c5]
theorem oI (t:Turn):Only g w (eN w g t):=ce (ce (ce (ce (ce (ce (Only.refl g w) 0 _) 1 _) 2 _) 3 _) 4 _) 5 _
theorem MAt.boxed{i:ZB}(h:MAt w b i m)(f:g≠b)(t:Turn):MAt (eN w g t) b i m :=
 (((((h.other g 0 (ZC t.K) f).other g 1 (J I t.M) f).other g 2 (U t.H) f).other g 3 (ZC t.ask) f).other g 4 (U t.e) f).other g 5 (J I t.j) f
abbrev dT (at_:Int)(sv:ZB)(st lk:Int)(b:Bool)(c:Int)(x:ByteArray)(ask:Bool)(nm:ByteArray)(f:Bool):ZB :=
 ZG #[J I at_,sv,J I st,J I lk,ZC b,J I c,U x,ZC ask,U nm,ZC f]
theorem dL (h:Below ZS u w)(b:ZS<=g)(v0 v1 v2 v3 v4 v5 v6 v7 v8 v9:ZB):Below ZS u ((((((((((w.setCell (Q g 0 Z) v0).setCell (Q g 1 Z) v1).setCell (Q g 2 Z) v2).setCell (Q g 3 Z) v3).setCell (Q g 4 Z) v4).setCell (Q g 5 Z) v5).setCell (Q g 6 Z) v6).setCell (Q g 7 Z) v7).setCell (Q g 8 Z) v8).setCell (Q g 9 Z) v9) :=
 (((((((((h.setCell b v0).setCell b v1).setCell b v2).setCell b v3).setCell b v4).setCell b v5).setCell b v6).setCell b v7).setCell b v8).setCell b v9
theorem fw (at_:Int)(a:Option Addr)(n cap:Nat)(st lk:Int)(f:Bool)(c0:Int)(g:ByteArray)(ask:Bool)(nm:ByteArray)(b:Bool)(c:Int)(x:ByteArray)(w:E):Calls Pg 173 #[dT at_ (Y a n cap) st lk f c0 g ask nm b,J I c,U x] w λe w'=>e=ZF (dT at_ (Y a n cap) st lk ZD c x ask nm b)/\Below (z (B w)) w w':=by go_enter func173,ntmps173;go_wp2;refine bp (v:=dT at_ (Y a n cap) st lk ZD c x ask nm b) (by simp[results,results173,go_sem]) rfl ⟨rfl,(br.alloc ly _).alloc (by simp) _⟩
theorem vI (op:Nat)(w:E)(h1:1<=op)(h15:op<=15):Calls Pg 174 #[J I op] w λe w'=>e=ZF (.tuple #[J I (aS op),J I (bJ op)])/\w'=w:=by
 rcases(show op=1∨op=2∨op=3∨op=4∨op=5∨op=6∨op=7∨op=8∨op=9∨op=10∨op=11∨op=12∨op=13∨op=14∨op=15 by omega) with rfl|rfl|rfl|rfl|rfl|rfl|rfl|rfl|rfl|rfl|rfl|rfl|rfl|rfl|rfl;all_goals
  go_enter func174,ntmps174;go_wp2;refine bp (v:=.tuple #[J I (aS _),J I (bJ _)]) (by simp[results,results174,go_sem,aS,bJ]) rfl ⟨rfl,rfl⟩
def b9 (op n:Nat)(t a b:ByteArray):List ByteArray :=
 match op with
 |1=>[t]
 |2=>[b++a]
 |3=>[if n<a.size then a.extract 0 n else a]
 |4=>[if n<a.size then a.extract n a.size else ⟨#[]⟩]
 |5=>[fF a n]
 |6=>[ez (a.toList == b.toList)]
 |7=>[a,a]
 |8=>[a,b]
 |_=>[]
theorem mD (w:E)(x:ByteArray)(g:Nat)(b:g=z (B w)):RowStr (w.alloc (N #[U x] 9)) g 0 1 (λi=>[x].getD i ⟨#[]⟩):=by
 subst b
 exact⟨by simp,λi hi=>by
  obtain rfl:i=0:=by omega
  simp⟩
theorem Gh (w:E)(x y:ByteArray)(g:Nat)(b:g=z (B w)):RowStr (w.alloc (N #[U x,U y] 9)) g 0 2 (λi=>[x,y].getD i ⟨#[]⟩):=by subst b;exact⟨by simp,λi hi=>by rcases(show i=0∨i=1 by omega) with rfl|rfl<;>simp⟩
theorem vJ (op n:Nat)(t a b:ByteArray)(w:E)(h1:1<=op)(h8:op<=8)(m:a.size<=2000)(hb:b.size<=2000)(hn:n<=2000):Calls Pg 176 #[ZG #[J I op,U t,J I n],U a,U b] w λe w'=>∃g,e=ZF (Y (T (Q g 0 Z)) (b9 op n t a b).length (b9 op n t a b).length)/\RowStr w' g 0 (b9 op n t a b).length (λi=>(b9 op n t a b).getD i ⟨#[]⟩)/\(z (B w))<=g/\Below (z (B w)) w w':=by
 have f:=ae ((BS w).alloc ly (N #[J I op,U t,J I n] 146));rcases(show op=1∨op=2∨op=3∨op=4∨op=5∨op=6∨op=7∨op=8 by omega) with rfl|rfl|rfl|rfl|rfl|rfl|rfl|rfl;{go_enter NQ,NI;go_wp2;go_ret;exact⟨_,rfl,mD _ t _ (by simp),by simp,f.alloc (by simp) _⟩};{go_enter NQ,NI;go_wp2;go_ret;exact⟨_,rfl,mD _ (b++a) _ (by simp),by simp,f.alloc (by simp) _⟩}
 ·by_cases h:(n:Int)<a.size
  ·have e:b9 3 n t a b=[a.extract 0 n]:=by simp[b9];omega
   rw[e];clear e;go_enter NQ,NI;go_wp2;go_ret;exact⟨_,rfl,mD _ _ _ (by simp),by simp,f.alloc (by simp) _⟩
  ·have e:b9 3 n t a b=[a]:=by simp[b9];omega
   rw[e];clear e;go_enter NQ,NI;go_wp2;go_ret;exact⟨_,rfl,mD _ _ _ (by simp),by simp,f.alloc (by simp) _⟩
 ·by_cases h:(n:Int)<a.size
  ·have e:b9 4 n t a b=[a.extract n a.size]:=by simp[b9];omega
   rw[e];clear e;go_enter NQ,NI;go_wp2;go_ret;exact⟨_,rfl,mD _ _ _ (by simp),by simp,f.alloc (by simp) _⟩
  ·have e:b9 4 n t a b=[⟨#[]⟩]:=by simp[b9];omega
   rw[e];clear e;go_enter NQ,NI;go_wp2;go_ret;exact⟨_,rfl,mD _ _ _ (by simp),by simp,f.alloc (by simp) _⟩
 {go_enter NQ,NI;go_wp2_with fail;refine(vE a n _ m hn).mono ?_;rintro e o ⟨rfl,j⟩;have l:=ae (f.trans (j.mono (by simp)));clear j;go_wp2;go_ret;exact⟨_,rfl,mD _ (fF a n) _ rfl,l.size,l.alloc l.size _⟩};{go_enter NQ,NI;go_wp2_with fail;refine(pH _ _).mono ?_;rintro e o ⟨rfl,rfl⟩;go_wp2;go_ret;exact⟨_,rfl,mD _ (ez (a.toList == b.toList)) _ (by simp),by simp,f.alloc (by simp) _⟩};{go_enter NQ,NI;go_wp2;go_ret;exact⟨_,rfl,Gh _ a a _ (by simp),by simp,f.alloc (by simp) _⟩};{go_enter NQ,NI;go_wp2;go_ret;exact⟨_,rfl,Gh _ a b _ (by simp),by simp,f.alloc (by simp) _⟩}
def Ten (w:E)(g:Nat)(v0 v1 v2 v3 v4 v5 v6 v7 v8 v9:ZB):Prop:=g<z (B w)/\(A w (Q g 0 Z)=T v0/\w.frozen? (Q g 0 Z)=ZA)/\(A w (Q g 1 Z)=T v1/\w.frozen? (Q g 1 Z)=ZA)/\(A w (Q g 2 Z)=T v2/\w.frozen? (Q g 2 Z)=ZA)/\(A w (Q g 3 Z)=T v3/\w.frozen? (Q g 3 Z)=ZA)/\(A w (Q g 4 Z)=T v4/\w.frozen? (Q g 4 Z)=ZA)/\(A w (Q g 5 Z)=T v5/\w.frozen? (Q g 5 Z)=ZA)/\(A w (Q g 6 Z)=T v6/\w.frozen? (Q g 6 Z)=ZA)/\(A w (Q g 7 Z)=T v7/\w.frozen? (Q g 7 Z)=ZA)/\(A w (Q g 8 Z)=T v8/\w.frozen? (Q g 8 Z)=ZA)/\(A w (Q g 9 Z)=T v9/\w.frozen? (Q g 9 Z)=ZA)
section
variable {w w':E}{g:Nat}{v0 v1 v2 v3 v4 v5 v6 v7 v8 v9:ZB}
theorem Ten.of_block (h:Ten w g v0 v1 v2 v3 v4 v5 v6 v7 v8 v9)(hz:z (B w)<=z (B w'))(hb:w'.heap[g]?=w.heap[g]?):Ten w' g v0 v1 v2 v3 v4 v5 v6 v7 v8 v9:=by have b:∀o,A w' (Q g o Z)=A w (Q g o Z):=λo=>cq (a:=(Q g o Z)) hb;have f:∀o,w'.frozen? (Q g o Z)=w.frozen? (Q g o Z):=λo=>KM (a:=(Q g o Z)) hb;unfold Ten at h ⊢;simp only[b,f];exact⟨lj h.1 hz,h.2⟩
theorem Ten.aa (h:Ten w g v0 v1 v2 v3 v4 v5 v6 v7 v8 v9)(hb:Below ZS w w')(b:g<ZS):Ten w' g v0 v1 v2 v3 v4 v5 v6 v7 v8 v9:=h.of_block hb.size (hb.block g b)
theorem Ten.grown{row:Option Nat}(h:Ten w g v0 v1 v2 v3 v4 v5 v6 v7 v8 v9)(hb:w.grownBy w' row)(b:T g≠row):Ten w' g v0 v1 v2 v3 v4 v5 v6 v7 v8 v9:=h.of_block hb.size (hb.block g h.1 b)
theorem Ten.al (h:Ten w g v0 v1 v2 v3 v4 v5 v6 v7 v8 v9)(o:Obj):Ten (w.alloc o) g v0 v1 v2 v3 v4 v5 v6 v7 v8 v9:=h.aa ((BS w).alloc ly o) h.1
theorem Ten.other (h:Ten w g v0 v1 v2 v3 v4 v5 v6 v7 v8 v9)(p:Addr)(u:ZB)(b:p.block≠g):Ten (w.setCell p u) g v0 v1 v2 v3 v4 v5 v6 v7 v8 v9:=h.of_block (by simp) (qh w p u g (λe=>b e.symm))
end
theorem kf (w:E)(v0 v1 v2 v3 v4 v5 v6 v7 v8 v9:ZB)(t:ZH)(g:Nat)(b:g=z (B w)):Ten (w.alloc (N #[v0,v1,v2,v3,v4,v5,v6,v7,v8,v9] t)) g v0 v1 v2 v3 v4 v5 v6 v7 v8 v9:=by subst b;simp[Ten]
section
variable {w:E}{g:Nat}{v0 v1 v2 v3 v4 v5 v6 v7 v8 v9:ZB}
theorem Ten.sets (h:Ten w g v0 v1 v2 v3 v4 v5 v6 v7 v8 v9)(u:ZB):Ten (w.setCell (Q g 0 Z) u) g u v1 v2 v3 v4 v5 v6 v7 v8 v9/\Ten (w.setCell (Q g 1 Z) u) g v0 u v2 v3 v4 v5 v6 v7 v8 v9/\Ten (w.setCell (Q g 2 Z) u) g v0 v1 u v3 v4 v5 v6 v7 v8 v9/\Ten (w.setCell (Q g 3 Z) u) g v0 v1 v2 u v4 v5 v6 v7 v8 v9/\Ten (w.setCell (Q g 4 Z) u) g v0 v1 v2 v3 u v5 v6 v7 v8 v9/\Ten (w.setCell (Q g 5 Z) u) g v0 v1 v2 v3 v4 u v6 v7 v8 v9/\Ten (w.setCell (Q g 6 Z) u) g v0 v1 v2 v3 v4 v5 u v7 v8 v9/\Ten (w.setCell (Q g 7 Z) u) g v0 v1 v2 v3 v4 v5 v6 u v8 v9/\Ten (w.setCell (Q g 8 Z) u) g v0 v1 v2 v3 v4 v5 v6 v7 u v9/\Ten (w.setCell (Q g 9 Z) u) g v0 v1 v2 v3 v4 v5 v6 v7 v8 u:=by have o:∀i j:Nat,i≠j->(w.setCell (Q g i Z) u).cell? (Q g j Z)=A w (Q g j Z):=λi j hij=>sq _ _ _ _ (by simp);have s:∀i v,A w (Q g i Z)=T v->(w.setCell (Q g i Z) u).cell? (Q g i Z)=T u:=λi v e=>BO _ _ _ (by rw[e];rfl);obtain⟨H,⟨q,G⟩,⟨l,D⟩,⟨n,ZQ⟩,⟨b,ZT⟩,⟨x,ZP⟩,⟨f,ZR⟩,⟨r,C⟩,⟨t,ZO⟩,⟨p,ZS⟩,m,y⟩:=h;simp[Ten,o,H,s _ _ q,s _ _ l,s _ _ n,s _ _ b,s _ _ x,s _ _ f,s _ _ r,s _ _ t,s _ _ p,s _ _ m,q,l,n,b,x,f,r,t,p,m,G,D,ZQ,ZT,ZP,ZR,C,ZO,ZS,y]
theorem Ten.set0 (h:Ten w g v0 v1 v2 v3 v4 v5 v6 v7 v8 v9)(u:ZB):Ten (w.setCell (Q g 0 Z) u) g u v1 v2 v3 v4 v5 v6 v7 v8 v9:=(h.sets u).1
theorem Ten.set1 (h:Ten w g v0 v1 v2 v3 v4 v5 v6 v7 v8 v9)(u:ZB):Ten (w.setCell (Q g 1 Z) u) g v0 u v2 v3 v4 v5 v6 v7 v8 v9:=(h.sets u).2.1
theorem Ten.set2 (h:Ten w g v0 v1 v2 v3 v4 v5 v6 v7 v8 v9)(u:ZB):Ten (w.setCell (Q g 2 Z) u) g v0 v1 u v3 v4 v5 v6 v7 v8 v9:=(h.sets u).2.2.1
theorem Ten.set3 (h:Ten w g v0 v1 v2 v3 v4 v5 v6 v7 v8 v9)(u:ZB):Ten (w.setCell (Q g 3 Z) u) g v0 v1 v2 u v4 v5 v6 v7 v8 v9:=(h.sets u).2.2.2.1
theorem Ten.set4 (h:Ten w g v0 v1 v2 v3 v4 v5 v6 v7 v8 v9)(u:ZB):Ten (w.setCell (Q g 4 Z) u) g v0 v1 v2 v3 u v5 v6 v7 v8 v9:=(h.sets u).2.2.2.2.1
theorem Ten.set5 (h:Ten w g v0 v1 v2 v3 v4 v5 v6 v7 v8 v9)(u:ZB):Ten (w.setCell (Q g 5 Z) u) g v0 v1 v2 v3 v4 u v6 v7 v8 v9:=(h.sets u).2.2.2.2.2.1
theorem Ten.set6 (h:Ten w g v0 v1 v2 v3 v4 v5 v6 v7 v8 v9)(u:ZB):Ten (w.setCell (Q g 6 Z) u) g v0 v1 v2 v3 v4 v5 u v7 v8 v9:=(h.sets u).2.2.2.2.2.2.1
theorem Ten.set7 (h:Ten w g v0 v1 v2 v3 v4 v5 v6 v7 v8 v9)(u:ZB):Ten (w.setCell (Q g 7 Z) u) g v0 v1 v2 v3 v4 v5 v6 u v8 v9:=(h.sets u).2.2.2.2.2.2.2.1
theorem Ten.set8 (h:Ten w g v0 v1 v2 v3 v4 v5 v6 v7 v8 v9)(u:ZB):Ten (w.setCell (Q g 8 Z) u) g v0 v1 v2 v3 v4 v5 v6 v7 u v9:=(h.sets u).2.2.2.2.2.2.2.2.1
theorem Ten.set9 (h:Ten w g v0 v1 v2 v3 v4 v5 v6 v7 v8 v9)(u:ZB):Ten (w.setCell (Q g 9 Z) u) g v0 v1 v2 v3 v4 v5 v6 v7 v8 u:=(h.sets u).2.2.2.2.2.2.2.2.2
end
theorem Gi (w:E)(b:Array ZB)(ty:ZH)(R ZJ:Obj)(j:Nat)(v:ZB)(f:b[j]?=T v):(((w.alloc (N b ty)).alloc R).alloc ZJ).cell? (Q (z (B w)) j Z)=T v:=by rw[(((cM (w.alloc (N b ty)).heap.size _).alloc ly R).alloc (by simp) ZJ).cell (p:=(Q (z (B w)) j Z)) (by simp)];simp[f]
abbrev SO:=(Nat × Nat × Nat × List ByteArray) ⊕ (Int × ByteArray × Nat) ⊕ (Bool × ByteArray × Nat)
abbrev strs (s:List ByteArray):List ZB:=s.reverse.map Value.string
def SoIs (w:E)(base:Nat)(v:ZB):SO->Prop
 |.inl (p,st,l,s)=>∃a cap,v=dT p (Y a s.length cap) st l ZA 0 ⟨#[]⟩ ZA ⟨#[]⟩ ZA/\w.ownsRow base 9 1 (Y a s.length cap) s.length (strs s)
 |.inr (.inl (c,x,st))=>∃(at_:Int) (a:Option Addr) (n cap:Nat) (lk:Int),v=dT at_ (Y a n cap) st lk ZD c x ZA ⟨#[]⟩ ZA
 |.inr (.inr (ask,nm,st))=>∃(at_:Int) (a:Option Addr) (n cap:Nat) (lk:Int),v=dT at_ (Y a n cap) st lk ZA 0 ⟨#[]⟩ ask nm ZD
theorem SoIs.kept{v:ZB}{r:SO}(h:SoIs w base v r)(hb:Below (z (B w)) w w')(g:b<=base):SoIs w' b v r:=by
 rcases r with ⟨p,st,l,s⟩|⟨c,x,st⟩|⟨ask,nm,st⟩
 {obtain⟨a,cap,e,f⟩:=h;exact⟨a,cap,e,aF (own_below f hb ly) g⟩};{exact h};{exact h}
theorem zO{k:Nat}{s0:ByteArray}{i:Int}{b:List ZB}(h:w.ownsRow base e 1 (Y (T (Q g 0 Z)) n cap) n b)(f:b[0]?=T (U s0))(j:A w (Q k 0 Z)=T (J I i)):k≠g:=by rintro rfl;have:=h.cells (g:=k) rfl 0 _ f;simp[Addr.add] at this;rw[j] at this;simp at this
theorem gj (x:ByteArray)(s:List ByteArray):strs (x::s)=strs s++[U x]:=by simp[strs]
theorem wJ:∃s0,(strs s++[Value.string x])[0]?=T (U s0):=by
 rw[<-gj];simp only[strs,KN,NP];have h:0<(x::s).reverse.length:=by simp
 exact⟨_,_,gq h,rfl⟩
theorem dM{b:List ZB}(h:w.ownsRow base e 1 (Y (T (Q g 0 Z)) n cap) n b){k:Nat}(f:k≠g)(u:ZB)(j:Nat):(w.setCell (Q k j Z) u).ownsRow base e 1 (Y (T (Q g 0 Z)) n cap) n b :=
 TC h (by simp[Value.ownBlock];exact λe=>f e.symm) u
theorem Cn{f:List ZB}(h:w.ownsRow base e 1 (Y (T (Q g 0 Z)) n cap) n f){k:Nat}(b:k≠g)(v0 v1 v2 v3 v4 v5 v6 v7 v8 v9:ZB):World.ownsRow ((((((((((w.setCell (Q k 0 Z) v0).setCell (Q k 1 Z) v1).setCell (Q k 2 Z) v2).setCell (Q k 3 Z) v3).setCell (Q k 4 Z) v4).setCell (Q k 5 Z) v5).setCell (Q k 6 Z) v6).setCell (Q k 7 Z) v7).setCell (Q k 8 Z) v8).setCell (Q k 9 Z) v9) base e 1 (Y (T (Q g 0 Z)) n cap) n f :=
 dM (dM (dM (dM (dM (dM (dM (dM (dM (dM h b v0 0) b v1 1) b v2 2) b v3 3) b v4 4) b v5 5) b v6 6) b v7 7) b v8 8) b v9 9
def jC (y:Nat->aC)(n:Nat)(a:Bool)(nm:ByteArray)(s:List ByteArray)(p st l:Nat):SO :=
 if n<=l then .inr (.inr (a,nm,st)) else if a=ZA then .inl (p,st,(l+1),(ez (y l).has::s)) else if (y l).has=ZA then .inr (.inl (4,nm,st))
 else if (y l).M=0 then .inl (p,st,(l+1),((y l).H::s)) else .inr (.inl (5,nm,st))
def jk (y:Nat->aC)(n op:Nat)(pl nm:ByteArray)(s:List ByteArray)(p st l:Nat):SO :=
 if aB nm=ZA then .inr (.inl (2,pl,st)) else if l=200 then .inr (.inl (3,⟨#[]⟩,st)) else jC y n ((op:Int) == 12) nm s p st l
theorem zP{op:Nat}{pl nm:ByteArray}{st:Nat}{b:SO}(h:b=jk y n op pl nm s p st l)(j:op=12∨op=13):(aB nm=ZA/\b=.inr (.inl (2,pl,st)))∨(aB nm=ZD/\((l:Int) == 200)=ZD/\b=.inr (.inl (3,⟨#[]⟩,st))) ∨
  (aB nm=ZD/\((l:Int) == 200)=ZA/\((n<=l/\b=.inr (.inr (((op:Int) == 12),nm,st)))∨(l<n/\((op=13/\b=.inl (p,st,(l+1),(ez (y l).has::s)))∨(op=12/\(((y l).has=ZA/\b=.inr (.inl (4,nm,st)))∨((y l).has=ZD/\(((y l).M=0/\b=.inl (p,st,(l+1),((y l).H::s)))∨(((y l).M == 0)=ZA/\b=.inr (.inl (5,nm,st))))))))))):=by
 unfold jk jC at h;by_cases h1:aB nm=ZA;{rw[j6 h1] at h;exact .inl ⟨h1,h⟩};rw[eT h1] at h;have h1:aB nm=ZD:=by simpa using h1
 by_cases h2:l=200;{rw[j6 h2] at h;exact .inr (.inl ⟨h1,by simp;omega,h⟩)};rw[eT h2] at h;refine .inr (.inr ⟨h1,by simp;omega,?_⟩);by_cases i:n<=l;{rw[j6 i] at h;exact .inl ⟨i,h⟩};rw[eT i] at h;refine .inr ⟨by omega,?_⟩;rcases j with rfl|rfl;{rw[eT (by simp)] at h;by_cases f:(y l).has=ZA;{rw[j6 f] at h;exact .inr ⟨rfl,.inl ⟨f,h⟩⟩};rw[eT f] at h;by_cases g:(y l).M=0;{rw[j6 g] at h;exact .inr ⟨rfl,.inr ⟨by simpa using f,.inl ⟨g,h⟩⟩⟩};rw[eT g] at h;exact .inr ⟨rfl,.inr ⟨by simpa using f,.inr ⟨by simpa using g,h⟩⟩⟩};{rw[j6 (by simp)] at h;exact .inl ⟨rfl,h⟩}
structure LkS (w:E)(op:Int)(base:Nat)(a:Option Addr)(cap:Nat)(s:List ByteArray)(p st lk:Int)(V:E):Prop where
 run:Ten V (z (B w)+1) (J I p) (Y a s.length cap) (J I st) (J I lk) (ZC ZA) (J I 0) (U ⟨#[]⟩) (ZC ZA) (U ⟨#[]⟩) (ZC ZA)
 zer:Ten V (z (B w)+1+1) (J I 0) (Y Z 0 0) (J I 0) (J I 0) (ZC ZA) (J I 0) (U ⟨#[]⟩) (ZC ZA) (U ⟨#[]⟩) (ZC ZA)
 bl:Below (z (B w)) w V
 y:V.ownsRow base 9 1 (Y a s.length cap) s.length (strs s)
 ne:∀k,z (B w)<=k->Value.ownBlock (Y a s.length cap)≠T k
 arg:A V (Q (z (B w)) 0 Z)=T (J I op)
section
variable {w V ZK:E}{base cap:Nat}{a:Option Addr}{s:List ByteArray}{op p st lk:Int}
theorem LkS.aa (h:LkS w op base a cap s p st lk V)(b:Below (z (B V)) V ZK):LkS w op base a cap s p st lk ZK :=
 ⟨h.run.aa b h.run.1,h.zer.aa b h.zer.1,h.bl.trans (b.mono h.bl.size),own_below h.y b ly,h.ne,(b.cell (p:=(Q (z (B w)) 0 Z)) (by have:=h.run.1;show (z (B w))<_;omega)).trans h.arg⟩
theorem LkS.next (h:LkS w op base a cap s p st lk V)(q:Int):LkS w op base a cap s p st q (V.setCell (Q (z (B w)+1) 3 Z) (J I q)) :=
 ⟨h.run.set3 _,h.zer.other _ _ (by simp),h.bl.setCell (p:=(Q (z (B w)+1) 3 Z)) (by simp) _,TC h.y (a:=(Q (z (B w)+1) 3 Z)) (h.ne _ (by simp)) _,h.ne,(sq _ _ _ _ (by simp)).trans h.arg⟩
theorem LkS.al (h:LkS w op base a cap s p st lk V)(o:Obj):LkS w op base a cap s p st lk (V.alloc o):=h.aa (br.alloc ly o)
theorem LkS.drew (h:LkS w op base a cap s p st lk V):LkS w op base a cap s p st lk V.drew:=h.aa br.drew
theorem LkS.grown (h:LkS w op base a cap s p st lk V)(b:V.grownBy ZK (Value.slice a s.length cap).ownBlock)(hb:base<=z (B w)):Ten ZK (z (B w)+1) (J I p) (Y a s.length cap) (J I st) (J I lk) (ZC ZA) (J I 0) (U ⟨#[]⟩) (ZC ZA) (U ⟨#[]⟩) (ZC ZA)/\Ten ZK (z (B w)+1+1) (J I 0) (Y Z 0 0) (J I 0) (J I 0) (ZC ZA) (J I 0) (U ⟨#[]⟩) (ZC ZA) (U ⟨#[]⟩) (ZC ZA)/\Below base w ZK :=
 ⟨h.run.grown b λe=>h.ne _ (by omega) e.symm,h.zer.grown b λe=>h.ne _ (by omega) e.symm,bg (h.bl.mono hb) b (nL hb h.bl.size) λk e=>(h.y.lt k e).1⟩
end
theorem ye (op:Nat)(t:ByteArray)(k:Int)(p st l:Nat)(a:Option Addr)(cap:Nat)(s:List ByteArray)(nm pl:ByteArray)(b2 o2 n ZK base:Nat)(y:Nat->aC)(w:E)
  (hY:RowReply w b2 o2 n y) (O:w.ownsRow base 9 1 (Y a s.length cap) s.length (strs s)) (hb:base<=z (B w)) (bt:op=12∨op=13) (hl:l<=200) (hs:s.length<=50) :
  Calls Pg 175 #[ZG #[J I op,U t,J I k],dT p (Y a s.length cap) st l ZA 0 ⟨#[]⟩ ZA ⟨#[]⟩ ZA,U nm,U pl,Y (T (Q b2 o2 Z)) n ZK] w λe w'=>∃v,e=ZF v/\SoIs w' base v (jk y n op pl nm s p st l)/\Below base w w':=by
 obtain⟨so,ZS⟩:∃so,so=jk y n op pl nm s p st l:=⟨_,rfl⟩
 rw[<-ZS];have HQ:=ae (zP ZS bt);have HY:=ae hY;have A0:=ae ((((BS w).alloc ly (N #[J I op,U t,J I k] 146)).alloc (by simp) (N #[J I p,Y a s.length cap,J I st,J I l,ZC ZA,J I 0,U ⟨#[]⟩,ZC ZA,U ⟨#[]⟩,ZC ZA] 216)).alloc (by simp<;>omega) (N #[J I 0,Y Z 0 0,J I 0,J I 0,ZC ZA,J I 0,U ⟨#[]⟩,ZC ZA,U ⟨#[]⟩,ZC ZA] 216));have C:=ae (LkS.mk (p:=p) (st:=st) (lk:=l) ((kf (w.alloc (N #[J I op,U t,J I k] 146)) _ _ _ _ _ _ _ _ _ _ 216 (z (B w)+1) (by simp)).al _) (kf _ _ _ _ _ _ _ _ _ _ _ 216 (z (B w)+1+1) (by simp)) A0.out (own_below O A0 ly) (λk hk e=>by have:=(O.lt k e).2;omega) (Gi w #[J I op,U t,J I k] 146 (N #[J I p,Y a s.length cap,J I st,J I l,ZC ZA,J I 0,U ⟨#[]⟩,ZC ZA,U ⟨#[]⟩,ZC ZA] 216) (N #[J I 0,Y Z 0 0,J I 0,J I 0,ZC ZA,J I 0,U ⟨#[]⟩,ZC ZA,U ⟨#[]⟩,ZC ZA] 216) 0 (J I op) rfl));clear ZS hY O A0;go_enter func175,ntmps175;go_wp2_with fail;generalize World.alloc (World.alloc (World.alloc w _) _) _=W0 at C ⊢;refine(cV nm _).mono ?_;rintro e g ⟨rfl,K⟩;replace C:=ae (C.aa K);have hz1:=C.zer.1;have i0:=C.arg;clear K;have R1:=ae C.run;obtain⟨ZR,⟨c0,f0⟩,⟨c1,f1⟩,⟨c2,ZL⟩,⟨c3,f3⟩,⟨c4,P⟩,⟨c5,ZM⟩,⟨c6,f6⟩,⟨c7,S⟩,⟨c8,f8⟩,c9,X⟩:=R1.out;rcases HQ.out with ⟨h1,rfl⟩|⟨h1,h2,rfl⟩|⟨h1,h2,⟨h3,rfl⟩|⟨h3,h⟩⟩
 all_goals
  rw[h1];clear HQ
 case' inr.inr.inl =>
  have ZE:=ae (((C.zer.other (Q (z (B w)+1) 9 Z) (ZC ZD) (by simp)).other (Q (z (B w)+1) 7 Z) (ZC ((op:Int) == 12)) (by simp)).other (Q (z (B w)+1) 8 Z) (U nm) (by simp));have B2:=ae (((C.bl.setCell (p:=(Q (z (B w)+1) 9 Z)) (by simp) (ZC ZD)).setCell (p:=(Q (z (B w)+1) 7 Z)) (by simp) (ZC ((op:Int) == 12))).setCell (p:=(Q (z (B w)+1) 8 Z)) (by simp) (U nm));obtain⟨x,⟨z0,V⟩,⟨z1,y1⟩,⟨z2,y2⟩,⟨z3,y3⟩,⟨j,ZN⟩,⟨i,y5⟩,⟨o,R⟩,⟨q,M⟩,⟨r,y8⟩,m,ZI⟩:=ZE.out;have hw:(n:Int)<=l:=by omega
  go_wp2;exact bp (v:=dT p (Y a s.length cap) st l ZA 0 ⟨#[]⟩ ((op:Int) == 12) nm ZD) (by simp[results,PM,go_sem,z0,z1,z2,z3,j,i,o,q,r,m]) rfl ⟨_,rfl,⟨_,_,_,_,_,rfl⟩,dL (B2.mono hb) (by omega) _ _ _ _ _ _ _ _ _ _⟩
 case' inr.inr.inr =>
  obtain⟨d0,d1,d2⟩:=(HY.aa C.bl ly).2 l h3;have hln:(l:Int)<n:=by omega
  have hz0:z (B w)<z (B g):=by omega
  have hz01:z (B w)+1<z (B g):=by omega
  replace C:=ae ((C.next ((l:Int)+1)).al (N #[ZC (y l).has,J I (y l).M,U (y l).H] 156));have ZJ:=jO (g.setCell (Q (z (B w)+1) 3 Z) (J I ((l:Int)+1))) #[ZC (y l).has,J I (y l).M,U (y l).H] 156 (z (B g)) 0 (ZC (y l).has) (by simp) rfl;have g1:=jO (g.setCell (Q (z (B w)+1) 3 Z) (J I ((l:Int)+1))) #[ZC (y l).has,J I (y l).M,U (y l).H] 156 (z (B g)) 1 (J I (y l).M) (by simp) rfl;have g2:=jO (g.setCell (Q (z (B w)+1) 3 Z) (J I ((l:Int)+1))) #[ZC (y l).has,J I (y l).M,U (y l).H] 156 (z (B g)) 2 (U (y l).H) (by simp) rfl;have aq:z (B g)<((g.setCell (Q (z (B w)+1) 3 Z) (J I ((l:Int)+1))).alloc (N #[ZC (y l).has,J I (y l).M,U (y l).H] 156)).heap.size:=by simp
  go_upto_region 12 with fail;clear ZR c0 f0 c1 f1 c2 ZL c3 f3 c4 P c5 ZM c6 f6 c7 S c8 f8 c9 X R1 d0 d1 d2 i0;generalize World.alloc (World.setCell g _ _) _=W at C ZJ g1 g2 aq ⊢;have i0:=C.arg;have hbW:base<=z (B W):=nL hb C.bl.size;obtain⟨ZQ,hi,L,ZO,H⟩:=KZ gA;obtain⟨ZR,⟨c0,f0⟩,⟨c1,f1⟩,⟨c2,ZL⟩,⟨c3,f3⟩,⟨c4,P⟩,⟨c5,ZM⟩,⟨c6,f6⟩,⟨c7,S⟩,⟨c8,f8⟩,c9,X⟩:=C.run;rcases h with ⟨rfl,rfl⟩|⟨rfl,⟨h4,rfl⟩|⟨h4,⟨h5,rfl⟩|⟨h5,rfl⟩⟩⟩
  case' inr.inl|inr.inr.inr=>rw[h4] at ZJ
  case' inr.inr.inl =>rw[h4] at ZJ;rw[h5] at g1;go_wp2_with (at_builtin;refine E4 _ rfl (.tmp 70) (.tmp 73) 35 rfl base 9 ZQ (U ⟨#[]⟩) 1 16 LL hi L ZO H rfl (by decide) (Y a s.length cap) s.length (strs s) (by simp[Act.eval]) (by first|exact C.y.alloc _|exact C.y.drew.alloc _|exact C.y.drew.drew.alloc _) (Q (z (B W)) 0 Z) 1 1 [U (y l).H] (by simp[Act.eval]) rfl (by first|exact fk W _ _|exact fk W.drew _ _|exact fk W.drew.drew _ _) (by simp[Value.oneCell']) (by unfold maxLen;omega) (by omega) (by simp<;>omega) ?_;intro v' w2 b f u;obtain⟨gg,ZT,rfl⟩:=ja b (by omega);have G:=ae (LkS.grown (by first|exact C.al _|exact C.drew.al _|exact C.drew.drew.al _) f hb);obtain⟨fd,⟨k0,m0⟩,⟨k1,m1⟩,⟨k2,m2⟩,⟨k3,m3⟩,⟨k4,m4⟩,⟨k5,m5⟩,⟨k6,m6⟩,⟨k7,m7⟩,⟨k8,m8⟩,k9,m9⟩:=G.1;obtain⟨x,⟨z0,V⟩,⟨z1,y1⟩,⟨z2,y2⟩,⟨z3,y3⟩,⟨j,ZN⟩,⟨i,y5⟩,⟨o,R⟩,⟨q,M⟩,⟨r,y8⟩,m,ZI⟩:=G.2.1)
  case' inl =>go_wp2_with fail;go_region_law (first|(refine fs rfl (.tmp 49) (.tmp 53) 35 rfl base 9 ZQ (U ⟨#[]⟩) 1 16 LL hi L ZO H rfl (by decide) (Y a s.length cap) s.length (strs s) (by simp[Act.eval]) (by first|exact C.y.alloc _|exact C.y.drew.alloc _|exact C.y.drew.drew.alloc _) (Q (z (B W)) 0 Z) 1 1 [U (ez (y l).has)] (by simp[Act.eval]) rfl (by first|exact fk W _ _|exact fk W.drew _ _|exact fk W.drew.drew _ _) (by simp[Value.oneCell']) (by unfold maxLen;omega) (by omega) (by simp<;>omega) ?_;intro v' w2 b f u;obtain⟨gg,ZT,rfl⟩:=ja b (by omega);have G:=ae (LkS.grown (by first|exact C.al _|exact C.drew.al _|exact C.drew.drew.al _) f hb);obtain⟨fd,⟨k0,m0⟩,⟨k1,m1⟩,⟨k2,m2⟩,⟨k3,m3⟩,⟨k4,m4⟩,⟨k5,m5⟩,⟨k6,m6⟩,⟨k7,m7⟩,⟨k8,m8⟩,k9,m9⟩:=G.1;obtain⟨x,⟨z0,V⟩,⟨z1,y1⟩,⟨z2,y2⟩,⟨z3,y3⟩,⟨j,ZN⟩,⟨i,y5⟩,⟨o,R⟩,⟨q,M⟩,⟨r,y8⟩,m,ZI⟩:=G.2.1)|(go_simp;go_at_call 194;refine(pH _ _).mono ?_;rintro e w9 ⟨rfl,ld⟩;subst ld))
  all_goals (try (have D:=zO b (wJ (s:=s)).choose_spec G.1.2.1.1;have ex:=zO b (wJ (s:=s)).choose_spec G.2.1.2.1.1;have la:=ae (dM b D (Y (T (Q gg 0 Z)) (s.length+1) ZT) 1);have B4:=ae (G.2.2.setCell (p:=(Q (z (B w)+1) 1 Z)) (by simp;omega) (Y (T (Q gg 0 Z)) (s.length+1) ZT));clear b f u D;(try go_wp2);refine bp (v:=dT p (Y (T (Q gg 0 Z)) (s.length+1) ZT) st ((l:Int)+1) ZA 0 ⟨#[]⟩ ZA ⟨#[]⟩ ZA) (by simp[results,PM,go_sem,z0,z1,z2,z3,j,i,o,q,r,m]) rfl ⟨_,rfl,⟨T (Q gg 0 Z),ZT,by simp,?_⟩,dL B4.out (by omega) _ _ _ _ _ _ _ _ _ _⟩;rw[gj];exact Cn la ex _ _ _ _ _ _ _ _ _ _))
 all_goals
  go_wp2_with fail;refine(fw _ _ _ _ _ _ _ _ _ _ _ _ _ _ _).mono ?_;rintro e w2 ⟨rfl,ZP⟩;replace C:=ae (C.aa ZP);clear ZP ZR c0 f0 c1 f1 c2 ZL c3 f3 c4 P c5 ZM c6 f6 c7 S c8 f8 c9 X;obtain⟨x,⟨z0,V⟩,⟨z1,y1⟩,⟨z2,y2⟩,⟨z3,y3⟩,⟨j,ZN⟩,⟨i,y5⟩,⟨o,R⟩,⟨q,M⟩,⟨r,y8⟩,m,ZI⟩:=C.zer;go_wp2;first
   |exact bp (v:=dT p (Y a s.length cap) st l ZD 3 ⟨#[]⟩ ZA ⟨#[]⟩ ZA) (by simp[results,PM,go_sem,z0,z1,z2,z3,j,i,o,q,r,m]) rfl ⟨_,rfl,⟨_,_,_,_,_,rfl⟩,dL (C.bl.mono hb) (by omega) _ _ _ _ _ _ _ _ _ _⟩
   |exact bp (v:=dT p (Y a s.length cap) st l ZD 2 pl ZA ⟨#[]⟩ ZA) (by simp[results,PM,go_sem,z0,z1,z2,z3,j,i,o,q,r,m]) rfl ⟨_,rfl,⟨_,_,_,_,_,rfl⟩,dL (C.bl.mono hb) (by omega) _ _ _ _ _ _ _ _ _ _⟩
   |exact bp (v:=dT p (Y a s.length cap) st ((l:Int)+1) ZD 4 nm ZA ⟨#[]⟩ ZA) (by simp[results,PM,go_sem,z0,z1,z2,z3,j,i,o,q,r,m]) rfl ⟨_,rfl,⟨_,_,_,_,_,rfl⟩,dL (C.bl.mono hb) (by omega) _ _ _ _ _ _ _ _ _ _⟩
   |exact bp (v:=dT p (Y a s.length cap) st ((l:Int)+1) ZD 5 nm ZA ⟨#[]⟩ ZA) (by simp[results,PM,go_sem,z0,z1,z2,z3,j,i,o,q,r,m]) rfl ⟨_,rfl,⟨_,_,_,_,_,rfl⟩,dL (C.bl.mono hb) (by omega) _ _ _ _ _ _ _ _ _ _⟩
theorem add0 (g j:Nat):((Q g 0 Z):Addr).add j=(Q g j Z):=by unfold Addr.add;split<;>simp_all
theorem Fc (h:w.ownsRow base e 1 (Y (T (Q g 0 Z)) (r.length+1) cap) (r.length+1) (strs (x::r))):A w (Q g r.length Z)=T (U x):=by have:=h.cells (g:=g) rfl r.length (U x) (by rw[gj,KL (by simp)];simp);rwa[add0] at this
theorem Fe{ZR:ByteArray}(h:w.ownsRow base e 1 (Y (T (Q g 0 Z)) (r.length+2) cap) (r.length+2) (strs (x::ZR::r))):A w (Q g (r.length+1) Z)=T (U x)/\A w (Q g r.length Z)=T (U ZR):=by have h1:=h.cells (g:=g) rfl (r.length+1) (U x) (by rw[gj,KL (by simp)];simp);have h2:=h.cells (g:=g) rfl r.length (U ZR) (by rw[gj,KP (by simp),gj,KL (by simp)];simp);rw[add0] at h1 h2;exact⟨h1,h2⟩
theorem Ff{b:List ZB}(h:w.ownsRow base e 1 (Y (T (Q g 0 Z)) n cap) n b):n<=cap:=by
 rcases h.2 with ⟨i,_⟩|⟨g,c,cur,f,_,_,hn,_⟩
 {simp at i};{simp at f;omega}
theorem Fg{xs:List ZB}(h:w.ownsRow base e 1 (Y (T (Q g 0 Z)) n cap) n (strs r++xs)):∀j u,(strs r)[j]?=T u->w.cell? (((Q g 0 Z):Addr).add j)=T u:=λj u b =>h.cells (g:=g) rfl j u (by rw[KP (by obtain⟨f,_⟩:=j5.1 b;exact f)];exact b)
theorem rF{v:ZB}(h:w.ownsRow base e 1 v n i)(b:v≠.slice Z 0 0):∃g cap,v=Y (T (Q g 0 Z)) n cap/\base<=g:=by
 rcases h.2 with ⟨j,_⟩|⟨g,cap,cur,b,f,_⟩
 {exact absurd j b};{exact⟨g,cap,b,f⟩}
theorem Co (r:List ByteArray):∀u∈strs r,u.oneCell'=ZD:=by intro u b;obtain⟨x,_,rfl⟩:=LM.1 b;rfl
theorem SoIs.form{v:ZB}{r:SO}(h:SoIs w base v r):∃(at_:Int) (a:Option Addr) (n cap:Nat) (st lk:Int) (f:Bool) (c:Int) (x:ByteArray) (ask:Bool) (nm:ByteArray) (b:Bool),v=dT at_ (Y a n cap) st lk f c x ask nm b:=by
 rcases r with ⟨p,st,l,s⟩|⟨c,x,st⟩|⟨ask,nm,st⟩
 {obtain⟨a,cap,e,_⟩:=h;exact⟨_,_,_,_,_,_,_,_,_,_,_,_,e⟩};{obtain⟨at_,a,n,cap,lk,e⟩:=h;exact⟨_,_,_,_,_,_,_,_,_,_,_,_,e⟩};{obtain⟨at_,a,n,cap,lk,e⟩:=h;exact⟨_,_,_,_,_,_,_,_,_,_,_,_,e⟩}
theorem SoIs.set{v:ZB}{r:SO}(h:SoIs w base v r){k:Nat}(b:k<base)(j:Nat)(u:ZB):SoIs (w.setCell (Q k j Z) u) base v r:=by
 rcases r with ⟨p,st,l,s⟩|⟨c,x,st⟩|⟨ask,nm,st⟩
 {obtain⟨a,cap,e,f⟩:=h;exact⟨a,cap,e,TF f (a:=(Q k j Z)) b u⟩};{exact h};{exact h}
theorem SoIs.mono{base':Nat}{v:ZB}{r:SO}(h:SoIs w base v r)(hb:base'<=base):SoIs w base' v r:=h.kept br hb
theorem zQ{v:ZB}{r:SO}(h:SoIs w base v r){k:Nat}(b:k<base)(v0 v1 v2 v3 v4 v5 v6 v7 v8 v9:ZB):SoIs ((((((((((w.setCell (Q k 0 Z) v0).setCell (Q k 1 Z) v1).setCell (Q k 2 Z) v2).setCell (Q k 3 Z) v3).setCell (Q k 4 Z) v4).setCell (Q k 5 Z) v5).setCell (Q k 6 Z) v6).setCell (Q k 7 Z) v7).setCell (Q k 8 Z) v8).setCell (Q k 9 Z) v9) base v r :=
 (((((((((h.set b 0 v0).set b 1 v1).set b 2 v2).set b 3 v3).set b 4 v4).set b 5 v5).set b 6 v6).set b 7 v7).set b 8 v8).set b 9 v9
theorem yg (op n:Nat)(t a b:ByteArray)(h1:1<=op)(h11:op<=11):(b9 op n t a b).length=bJ op:=by rcases(show op=1∨op=2∨op=3∨op=4∨op=5∨op=6∨op=7∨op=8∨op=9∨op=10∨op=11 by omega) with rfl|rfl|rfl|rfl|rfl|rfl|rfl|rfl|rfl|rfl|rfl;all_goals rfl
theorem Fh{op:Nat}(h1:1<=op)(h11:op<=11)(h:j<bJ op):op<=8:=by rcases(show op=1∨op=2∨op=3∨op=4∨op=5∨op=6∨op=7∨op=8∨op=9∨op=10∨op=11 by omega) with rfl|rfl|rfl|rfl|rfl|rfl|rfl|rfl|rfl|rfl|rfl;all_goals simp[bJ] at h ⊢
theorem Cp (op:Nat):bJ op<=2:=by
 unfold bJ;split;{omega};{split<;>omega}
def gn (b:List ByteArray)(pl:ByteArray)(r:List ByteArray)(p st l:Nat):SO:=if b.all (λx=>decide (x.size<=2000)) then .inl (p,st,l,(b.reverse++r)) else .inr (.inl (2,pl,st))
theorem zR{b:List ByteArray}(h:j<b.length):(b.take (j+1)).map Value.string=(b.take j).map Value.string++[U (b.getD j ⟨#[]⟩)]:=by rw[SN,KI,gq h];simp[h]
theorem Cq (b r:List ByteArray):strs (b.reverse++r)=strs r++b.map Value.string:=by simp[strs]
theorem Fi{b:List ByteArray}(h:j<b.length)(f:¬ ((b.getD j ⟨#[]⟩).size:Int)<=2000):b.all (λx=>decide (x.size<=2000))=ZA:=by simp only[List.all_eq_false];exact⟨b[j],gz h,by simp[h] at f ⊢;omega⟩
theorem Ct{b:List ByteArray}(h:∀i,i<b.length->(b.getD i ⟨#[]⟩).size<=2000):b.all (λx=>decide (x.size<=2000))=ZD:=by simp only[List.all_eq_true,p6];intro x f;obtain⟨i,hi,rfl⟩:=List.mem_iff_getElem.1 f;have:=h i hi;simpa[hi] using this
def gQ (y:Nat->aC)(n place st looks:Nat):Res->SO
 |.inr (.inl (c,x))=>.inr (.inl (c,x,st))
 |.inl (s',p)=>.inl (p,st,looks,s')
 |.inr (.inr (a,nm,s'))=>jC y n a nm s' (place+1) st looks
def fJ (f:Nat->Ins)(cnt:Nat)(y:Nat->aC)(n place steps looks:Nat)(s:List ByteArray):SO:=gQ y n place (cL cnt place steps) looks (bN f cnt place steps looks s)
theorem zT{a:Option Addr}(h:w.ownsRow base e 1 (Y a n cap) n i):(a=Z/\n=0/\cap=0)∨∃g,a=T (Q g 0 Z):=by
 rcases h.2 with ⟨f,_⟩|⟨g,c,cur,b,_⟩
 {simp only[KK] at f;exact .inl f};{simp only[KK] at b;exact .inr ⟨g,b.1⟩}
theorem yi (op k:Nat)(t a b:ByteArray)(h1:1<=op)(h11:op<=11)(h2:op≠2)(g:t.size<=2000)(f:a.size<=2000)(hb:b.size<=2000):(b9 op k t a b).all (λx=>decide (x.size<=2000))=ZD:=by
 rcases(show op=1∨op=3∨op=4∨op=5∨op=6∨op=7∨op=8∨op=9∨op=10∨op=11 by omega) with rfl|rfl|rfl|rfl|rfl|rfl|rfl|rfl|rfl|rfl;{simp[b9,g]};{simp only[b9,TP,UF,OR,p6];split;{simp;omega};{exact f}};{simp only[b9,TP,UF,OR,p6];split;{simp;omega};{decide}};{simp only[b9,TP,UF,OR,p6];exact nL (pK _ _) f};{simp only[b9,TP,UF,OR,p6];exact iM _};{simp[b9,f]};{simp[b9,f,hb]};{rfl};{rfl};{rfl}
theorem yj (op k:Nat)(t a b pl:ByteArray)(r:List ByteArray)(p st l:Nat)(h1:1<=op)(f:op<=11)(h2:op≠2)(g:t.size<=2000)(h:a.size<=2000)(hb:b.size<=2000):gn (b9 op k t a b) pl r p st l=.inl (p,st,l,((b9 op k t a b).reverse++r)):=by unfold gn;rw[yi op k t a b h1 f h2 g h hb];rfl
theorem Gj (k:Nat)(t x ZR:ByteArray)(r:List ByteArray)(y:Nat->aC)(n place st looks:Nat):gQ y n place st looks (cF 2 k t place looks (x::ZR::r))=gn (b9 2 k t x ZR) (dO place) r (place+1) st looks:=by
 unfold gn;simp only[cF,b9,TP,UF,OR,MO];by_cases h:ZR.size+x.size<=2000;{rw[j6 h,j6 (by simpa using h)];rfl};{rw[eT h,eT (by simpa using h)];rfl}
theorem wK (op:Nat)(y:Nat->aC)(n place st looks:Nat)(x:ByteArray)(r:List ByteArray)(b:Bool)(hb:((op:Int) == 12)=b):gQ y n place st looks (gV b x r place looks)=jk y n op (dO place) x r (place+1) st looks:=by
 unfold gV jk;rw[hb];by_cases h1:aB x=ZA;{rw[j6 h1,j6 h1];rfl};{rw[eT h1,eT h1];by_cases h2:looks=200;{rw[j6 h2,j6 h2];rfl};{rw[eT h2,eT h2];rfl}}
theorem Cu (l r:List ByteArray):strs (l++r)=strs r++strs l:=by simp[strs]
def lv (op:Nat)(s:List ByteArray):ByteArray:=if 0<aS op then s.getD 0 ⟨#[]⟩ else ⟨#[]⟩
def qG (op:Nat)(s:List ByteArray):ByteArray:=if 1<aS op then s.getD 1 ⟨#[]⟩ else ⟨#[]⟩
def mE (op k:Nat)(a:ByteArray)(place:Nat):Nat:=if op=10 then k else if op=11/\(a.toList=[]∨(a.toList == [48])=ZD) then k else place+1
theorem GU{op k place:Nat}{ZT:ByteArray}(h:op=10∨op=11/\ZT.toList.isEmpty=ZD∨op=11/\(ZT.toList == [48])=ZD):mE op k ZT place=k:=by
 unfold mE;rcases h with rfl|⟨rfl,h⟩|⟨rfl,h⟩
 {rfl};{rw[eT (by omega),j6 ⟨rfl,.inl (List.isEmpty_iff.1 h)⟩]};{rw[eT (by omega),j6 ⟨rfl,.inr h⟩]}
theorem Fj (op:Nat)(ZT:ByteArray)(h:op<=15):op=15∨op=14∨op=12∨op=13∨op=10∨(op=11/\ZT.toList.isEmpty=ZD)∨(op=11/\ZT.toList.isEmpty=ZA/\(ZT.toList == [48])=ZD)∨(op=11/\ZT.toList.isEmpty=ZA/\(ZT.toList == [48])=ZA)∨op<=9:=by
 by_cases e:op=11;{subst e;cases ZT.toList.isEmpty<;>cases (ZT.toList == [48])<;>simp};{omega}
theorem uh (h:∀x∈s,x.size<=2000)(op:Nat):(lv op s).size<=2000/\(qG op s).size<=2000:=by
 have g:∀j,(s.getD j ⟨#[]⟩).size<=2000:=λj=>by
  rw[IS];rcases hj:s[j]? with _|x;{exact IH _};{exact h x (J2 hj)}
 refine⟨?_,?_⟩;{unfold lv;split;{exact g 0};{exact IH _}};{unfold qG;split;{exact g 1};{exact IH _}}
theorem Cv (op k:Nat)(t:ByteArray)(s:List ByteArray)(y:Nat->aC)(n place st looks:Nat)(h1:1<=op)(f:op<=11)(hb:aS op<=s.length)(g:t.size<=2000)(b:∀x∈s,x.size<=2000):gQ y n place st looks (cF op k t place looks s)=gn (b9 op k t (lv op s) (qG op s)) (dO place) (s.drop (aS op)) (mE op k (lv op s) place) st looks:=by
 have i:=(uh b op).1;have h:=(uh b op).2;by_cases h2:op=2
 ·subst h2;match s,hb with
  |x::ZR::r,_=>exact Gj k t x ZR r y n place st looks
 ·rw[yj op k t _ _ _ _ _ _ _ h1 f h2 g i h];rcases(show op=1∨op=3∨op=4∨op=5∨op=6∨op=7∨op=8∨op=9∨op=10∨op=11 by omega) with rfl|rfl|rfl|rfl|rfl|rfl|rfl|rfl|rfl|rfl;{rfl};iterate 3
   ·match s,hb with
    |x::r,_=>rfl
  ·match s,hb with
   |x::ZR::r,_=>rfl
  ·match s,hb with
   |x::r,_=>rfl
  ·match s,hb with
   |x::ZR::r,_=>rfl
  ·match s,hb with
   |x::r,_=>rfl
  {rfl}
  ·match s,hb with
   |x::r,_ =>show gQ y n place st looks (cF 11 k t place looks (x::r))=.inl (mE 11 k x place,st,looks,r);simp only[cF,gQ,mE,show((11:Nat)=10)=False by simp,RV,PJ]
theorem Fl (op k:Nat)(t:ByteArray)(s:List ByteArray)(y:Nat->aC)(n place st looks:Nat)(h:op=12∨op=13)(hb:aS op<=s.length):gQ y n place st looks (cF op k t place looks s)=jk y n op (dO place) (lv op s) (s.drop (aS op)) (place+1) st looks:=by
 rcases h with rfl|rfl
 ·match s,hb with
  |x::r,_=>exact wK 12 y n place st looks x r ZD rfl
 ·match s,hb with
  |x::r,_=>exact wK 13 y n place st looks x r ZA rfl
theorem wL (op k:Nat)(t:ByteArray)(s:List ByteArray)(y:Nat->aC)(n place st looks:Nat)(h:op=14∨op=15)(hb:aS op<=s.length):gQ y n place st looks (cF op k t place looks s)=.inr (.inl (15 - (op:Int),lv op s,st)):=by
 rcases h with rfl|rfl
 ·match s,hb with
  |x::r,_=>rfl
 ·match s,hb with
  |x::r,_=>rfl
def ej (f:Nat->au)(l:Link):aC :=
 if l.ask=ZD then
  (if (f l.G.toNat).L=1 then ⟨ZD,0,(f l.G.toNat).H⟩ else if (f l.G.toNat).L=3 then ⟨ZD,(f l.G.toNat).M,(f l.G.toNat).H⟩ else ⟨ZA,0,⟨#[]⟩⟩)
 else ⟨l.has,0,⟨#[]⟩⟩
def yOf (f:Nat->au)(p:Nat)(k:Nat):aC:=ej f ((f p).m k)
def bo (f:Nat->au)(p k:Nat):Turn:=bZ (f p).u (f p).h (yOf f p) k 2001 0 0 0 []
def ec (f:Nat->au)(p k:Nat):Bool:=(bo f p k).K || !((bo f p k).e.toList == ((f p).m k).e.toList) || !((bo f p k).ask == ((f p).m k).ask)
def ee (f:Nat->au)(p:Nat):Nat->Nat->Nat
 |0,k=>k
 |j+1,k=>if ec f p k=ZD then k else ee f p j (k+1)
def bu (f:Nat->au)(p:Nat):Nat:=ee f p (f p).f 0
def fP (f:Nat->au)(p:Nat):Int :=
 if bu f p<(f p).f then 4 else if (bo f p (bu f p)).K=ZA then 4 else if (bo f p (bu f p)).M=(f p).M/\(bo f p (bu f p)).H.toList=(f p).H.toList then 0 else 5
def codeF (f:Nat->au)(p:Nat):Int:=if (f p).L=3 then fP f p else 0
def yk (f:Nat->au):Nat->Int × Int
 |0=>(0,0)
 |k+1=>if (yk f k).1=0 then (if codeF f k=0 then (0,0) else (codeF f k,(k:Int))) else yk f k
theorem oJ (f:Nat->au)(p:Nat):∀j k,k<=ee f p j k/\ee f p j k<=k+j
 |0,k=>⟨nX _,nX _⟩
 |j+1,k=>by
  rw[ee];split
  ·omega
  ·have:=oJ f p j (k+1)
   omega
theorem ui{k:Nat}(h:ec f p k=ZA):ee f p (j+1) k=ee f p j (k+1):=by rw[ee,eT (by rw[h];simp)]
theorem uj{k:Nat}(h:ec f p k=ZD):ee f p (j+1) k=k:=by rw[ee,j6 h]
theorem GN (b:∀i,i<n->codeF f i=0):yk f n=(0,0):=by
 induction n with
 |zero=>rfl
 |succ m g=>rw[yk,g λi hi=>b i (by omega),j6 rfl,j6 (b m (by omega))]
theorem dU (h:bv f n=ZD):∀p,p<n->(f p).H.size<=2000/\((f p).L=1/\(f p).M=0∨(f p).L=2/\(f p).M=0/\(f p).H.size=0∨(f p).L=3/\0<=(f p).M/\(f p).M<=5/\valid (f p).u (f p).h=ZD/\(f p).f<=200):=by
 intro p g;have h1:=ep (fl h).2.2 p g;simp only[bi,nD,kindOk,p6] at h1;obtain⟨⟨_,i⟩,h2⟩:=h1;refine⟨i,?_⟩;split at h2;{rename_i b;simp only[aU,nD,p6] at h2;exact .inl ⟨b,h2.1.1⟩};{split at h2;{rename_i b;simp only[aU,nD,p6] at h2;exact .inr (.inl ⟨b,h2.1.1.1,h2.2⟩)};{split at h2;{rename_i b;simp only[bW,nD,p6] at h2;exact .inr (.inr ⟨b,h2.1.1.1.1,h2.1.1.1.2,h2.1.1.2,h2.1.2⟩)};{simp at h2}}}
theorem wM (h:bv f n=ZD){l:Link}(b:l.ask=ZD->l.G.toNat<n):cD (ej f l)=ZD:=by
 unfold ej cD;split;{rename_i g;obtain⟨h1,h2⟩:=dU h _ (b g);split;{simp;omega};{split;{rename_i hk1 hk3;rcases h2 with h2|h2|h2;{omega};{omega};{simp;omega}};{exact MK ⟨IH _,by decide,by decide⟩}}};{exact MK ⟨IH _,UT _,show(0:Int)<=7 by decide⟩}
theorem uk{k:Nat}(h:∀i,i<k->cD (y i)=ZD):bS y k=ZD:=by
 induction k with
 |zero=>rfl
 |succ k b=>rw[bS,b λi hi=>h i (by omega),h k (by omega)];rfl
theorem mF (h:bv f n=ZD){l:Link}(m:l.ask=ZD)(j:l.G.toNat<n):ej f l=⟨decide (¬ (f l.G.toNat).L=2),(f l.G.toNat).M,(f l.G.toNat).H⟩:=by
 obtain⟨h1,h2⟩:=dU h _ j;unfold ej;rw[j6 m];rcases h2 with ⟨b,g⟩|⟨b,g,i⟩|⟨b,g⟩
 {rw[j6 b,b,g];rfl};{rw[eT (by omega),eT (by omega),b,g];have:(f l.G.toNat).H=⟨#[]⟩:=UY (PD i);rw[this];rfl};{rw[eT (by omega),j6 b,b];rfl}
theorem nO (y i n cap:Nat)(f:Nat->au)(l:Link)(w:E)(r:bv f n=ZD)(q:RowDeed w y i n f)(ZT:l.ask=ZD->0<=l.G/\l.G.toNat<n):Calls Pg 137 #[ZG #[Y (T (Q y i Z)) n cap],ZG #[U l.e,ZC l.ask,ZC l.has,J I l.G]] w λe w'=>e=ZF (ZG #[ZC (ej f l).has,J I (ej f l).M,U (ej f l).H])/\Below (z (B w)) w w':=by
 have ZI:=ae q;have s:=ae (λD:l.ask=ZD=>mF r D (ZT D).2);have ZR:=ae ZT;have x:=ae (show l.ask=ZA->ej f l=⟨l.has,0,⟨#[]⟩⟩ from λh=>by unfold ej;rw[eT (by rw[h];simp)]);clear q r ZT;obtain⟨R,hR⟩:∃R,R=ej f l:=⟨_,rfl⟩
 rw[<-hR] at s x ⊢;clear hR;obtain⟨nm,ask,t,at_⟩:=l;dsimp only at s ZR x ⊢;have u:=ae ((((BS w).alloc ly (N #[Y (T (Q y i Z)) n cap] 25)).alloc (by simp) (N #[U nm,ZC ask,ZC t,J I at_] 129)).alloc (by simp;omega) (N #[ZC ZA,J I 0,U ⟨#[]⟩] 156));cases ask with
 |false =>
  obtain rfl:R=⟨t,0,⟨#[]⟩⟩:=x.out rfl;dsimp only;go_enter func137,ntmps137;go_wp2
  exact bp (v:=ZG #[ZC t,J I 0,U ⟨#[]⟩]) (by simp[results,results137,go_sem]) rfl ⟨rfl,by
   repeat (first|exact cM _ _|refine RF ?_ (by simp<;>omega) _)⟩
 |true =>
  obtain⟨h1,h2⟩:=ZR.out rfl;obtain⟨p,rfl⟩:=AD h1;have L:p<n:=by simpa using h2
  obtain rfl:R=⟨decide (¬ (f p).L=2),(f p).M,(f p).H⟩:=by have:=s.out rfl;simpa using this
  dsimp only;obtain⟨O,p1,ZN,ZP,⟨P,C,ZL,S⟩,⟨ZJ,ZS,K,ZO⟩⟩:=(ZI.out.aa u.out ly).2 p L;clear S ZO s x ZR;have hpn:(p:Int)<n:=by omega
  go_enter func137,ntmps137;go_wp2_with fail;clear O p1 ZN ZP ZL K;obtain⟨o,m⟩:∃W:E,((w.alloc (N #[Y (T (Q y i Z)) n cap] 25)).alloc (N #[U nm,ZC ZD,ZC t,J I (p:Int)] 129)).alloc (N #[ZC ZA,J I 0,U ⟨#[]⟩] 156)=W:=⟨_,rfl⟩
  obtain⟨-,-,-,-,z0⟩:=nb3 m;have b:=ae m;clear m;have c0:A o (Q (z (B w)+1+1) 0 Z)=T (ZC ZA):=by rw[<-b.out];simp[go_sem]
  have G:o.frozen? (Q (z (B w)+1+1) 0 Z)=ZA:=by rw[<-b.out];simp[go_sem]
  have c1:A o (Q (z (B w)+1+1) 1 Z)=T (J I 0):=by rw[<-b.out];simp[go_sem]
  have H:o.frozen? (Q (z (B w)+1+1) 1 Z)=ZA:=by rw[<-b.out];simp[go_sem]
  have c2:A o (Q (z (B w)+1+1) 2 Z)=T (U ⟨#[]⟩):=by rw[<-b.out];simp[go_sem]
  have ZQ:o.frozen? (Q (z (B w)+1+1) 2 Z)=ZA:=by rw[<-b.out];simp[go_sem]
  rw[b.out] at u ⊢;clear b;refine(rj (f p) P C ZJ ZS _).mono ?_;rintro e ZM ⟨rfl,j⟩;have g:z (B w)+1+1<z (B o):=by omega
  have ZK:=(j.cell (p:=(Q (z (B w)+1+1) 0 Z)) g).trans c0;have X:=(j.cell (p:=(Q (z (B w)+1+1) 1 Z)) g).trans c1;have M:=(j.cell (p:=(Q (z (B w)+1+1) 2 Z)) g).trans c2;have e0:=(j.frozen (p:=(Q (z (B w)+1+1) 0 Z)) g).trans G;have e1:=(j.frozen (p:=(Q (z (B w)+1+1) 1 Z)) g).trans H;have e2:=(j.frozen (p:=(Q (z (B w)+1+1) 2 Z)) g).trans ZQ;have V:=ae (u.out.trans (j.mono u.out.size));have hz1:z (B w)+1+1<z (B ZM):=lj g j.size;clear j c0 c1 c2 G H ZQ;go_wp2;exact bp (v:=ZG #[ZC (decide (¬ (f p).L=2)),J I (f p).M,U (f p).H]) (by simp[results,results137,go_sem,ZK,X,M]) rfl ⟨rfl,((V.out.setCell (p:=(Q (z (B w)+1+1) 0 Z)) (by simp;omega) _).setCell (p:=(Q (z (B w)+1+1) 1 Z)) (by simp;omega) _).setCell (p:=(Q (z (B w)+1+1) 2 Z)) (by simp;omega) _⟩
theorem pN (ZS q n cap:Nat)(f:Nat->au)(p u x o:Nat)(a1:Option Addr)(r:Nat)(w:E)(C:bv f n=ZD)(hp:p<n)(hk:(f p).L=3)(ZI:RowDeed w ZS q n f)(hI:RowIns w u x (f p).h (f p).u)(Bk:SlLink w a1 (f p).f (f p).m)(la:Tab2 w)(L:Pow w):Calls Pg 87 #[ZG #[Y (T (Q ZS q Z)) n cap],ZG #[U (f p).e,J I (f p).L,J I (f p).M,U (f p).H,Y (T (Q u x Z)) (f p).h o,Y a1 (f p).f r]] w λe w'=>e=ZF (.tuple #[(bo f p (bu f p)).v,J I (((f p).f:Int) - (bu f p:Int))])/\Below (z (B w)) w w':=by
 have Hl:valid (f p).u (f p).h=ZD/\(f p).f<=200:=by
  rcases(dU C p hp).2 with h|h|h;{omega};{omega};{exact⟨h.2.2.2.1,h.2.2.2.2⟩}
 obtain⟨hv,hN⟩:=Hl;have Hc:(f p).h<=200:=by have:=(bF hv).2.2;omega
 have Hf:=ae (bF hv).1;have K:=ae C;have ZK:=ae (λj (hj:j<(f p).f) (S:((f p).m j).ask=ZD)=>(⟨(eS C p hp j hj S).1,Nat.lt_trans (eS C p hp j hj S).2.1 hp⟩:0<=((f p).m j).G/\((f p).m j).G.toNat<n));have n9:=ae ZI;have HI:=ae hI;have Hy:=ae Bk;have sm:=ae la;have V:=ae L;have hib:=hI.1;have Fm:=la.1;have hpwb:=L.lt;clear C ZI hI Bk la L hv hk;obtain⟨ZM,ph⟩:∃ZM,ZM=bo f p (bu f p):=⟨_,rfl⟩
 obtain⟨R,n6⟩:∃R,R=bu f p:=⟨_,rfl⟩
 rw[<-ph,<-n6];have He:=ae ph;have ZN:=ae n6;clear ph n6;have P:=ae (show Below (z (B w)) w (((w.alloc (N #[Y (T (Q ZS q Z)) n cap] 25)).alloc (N #[U (f p).e,J I (f p).L,J I (f p).M,U (f p).H,Y (T (Q u x Z)) (f p).h o,Y a1 (f p).f r] 46)).alloc (N #[ZC ZA,J I 0,U ⟨#[]⟩,ZC ZA,U ⟨#[]⟩,J I 0] 150)) from(((BS w).alloc ly (N #[Y (T (Q ZS q Z)) n cap] 25)).alloc (by simp) (N #[U (f p).e,J I (f p).L,J I (f p).M,U (f p).H,Y (T (Q u x Z)) (f p).h o,Y a1 (f p).f r] 46)).alloc (by simp;omega) (N #[ZC ZA,J I 0,U ⟨#[]⟩,ZC ZA,U ⟨#[]⟩,J I 0] 150));have zA:(((w.alloc (N #[Y (T (Q ZS q Z)) n cap] 25)).alloc (N #[U (f p).e,J I (f p).L,J I (f p).M,U (f p).H,Y (T (Q u x Z)) (f p).h o,Y a1 (f p).f r] 46)).alloc (N #[ZC ZA,J I 0,U ⟨#[]⟩,ZC ZA,U ⟨#[]⟩,J I 0] 150)).heap.size=z (B w)+3:=by simp
 have kA:(((w.alloc (N #[Y (T (Q ZS q Z)) n cap] 25)).alloc (N #[U (f p).e,J I (f p).L,J I (f p).M,U (f p).H,Y (T (Q u x Z)) (f p).h o,Y a1 (f p).f r] 46)).alloc (N #[ZC ZA,J I 0,U ⟨#[]⟩,ZC ZA,U ⟨#[]⟩,J I 0] 150)).cell? (Q (z (B w)) 0 Z)=T (Y (T (Q ZS q Z)) n cap):=by simp[go_sem]
 have H7:(((w.alloc (N #[Y (T (Q ZS q Z)) n cap] 25)).alloc (N #[U (f p).e,J I (f p).L,J I (f p).M,U (f p).H,Y (T (Q u x Z)) (f p).h o,Y a1 (f p).f r] 46)).alloc (N #[ZC ZA,J I 0,U ⟨#[]⟩,ZC ZA,U ⟨#[]⟩,J I 0] 150)).cell? (Q (z (B w)+1) 4 Z)=T (Y (T (Q u x Z)) (f p).h o):=by simp[go_sem]
 have mv:(((w.alloc (N #[Y (T (Q ZS q Z)) n cap] 25)).alloc (N #[U (f p).e,J I (f p).L,J I (f p).M,U (f p).H,Y (T (Q u x Z)) (f p).h o,Y a1 (f p).f r] 46)).alloc (N #[ZC ZA,J I 0,U ⟨#[]⟩,ZC ZA,U ⟨#[]⟩,J I 0] 150)).cell? (Q (z (B w)+1) 5 Z)=T (Y a1 (f p).f r):=by simp[go_sem]
 have XA:=ae (by have h:=ke ((w.alloc (N #[Y (T (Q ZS q Z)) n cap] 25)).alloc (N #[U (f p).e,J I (f p).L,J I (f p).M,U (f p).H,Y (T (Q u x Z)) (f p).h o,Y a1 (f p).f r] 46)) (ZC ZA) (J I 0) (U ⟨#[]⟩) (ZC ZA) (U ⟨#[]⟩) (J I 0) 150;rw[show((w.alloc (N #[Y (T (Q ZS q Z)) n cap] 25)).alloc (N #[U (f p).e,J I (f p).L,J I (f p).M,U (f p).H,Y (T (Q u x Z)) (f p).h o,Y a1 (f p).f r] 46)).heap.size=z (B w)+1+1 by simp] at h;exact h);have S0:Sim m0 0 0 0 []:=⟨trivial,rfl,by simp,rfl,rfl,rfl,by simp,by omega,by omega,by omega⟩
 obtain⟨H0,Hi,DS,Hb⟩:=oH (f:=(f p).u) (cnt:=(f p).h) (m:=m0) rfl S0;have Hz:=ae Hi;have H9:=ae DS;have Ia:=ae Hb;clear Hi DS Hb S0;go_enter func87,ntmps87;go_wp2_with fail;generalize World.alloc (World.alloc (World.alloc w _) _) _=WA at P zA kA H7 mv XA ⊢;refine(zN u x (f p).h o _).mono ?_;rintro e w1 ⟨b,rfl,hb,bt,G8⟩;have ro:=ae bt;have B1:Hid (Below (z (B w)+3) WA w1):=by show Below _ _ _;rw[<-zA];exact G8
 have Ha:z (B w)+3<=b:=by omega
 have hb1:b<z (B w1):=bt.lt;have aq:=ae (P.out.trans (B1.out.mono (by omega)));clear bt G8 hb;have At:Hid (Env w1 b u x (f p).h (f p).u):=⟨HI.out.aa aq.out ly,sm.out.aa aq.out Fm,V.out.aa aq.out ly,by omega,by omega,by omega⟩
 go_wp2_with fail;refine(pM b u x (f p).h o (f p).u m0 H0 ⟨ZA,0,⟨#[]⟩⟩ _ ro.out At.out rfl Hc Hf.out Hz.out).mono ?_;rintro e w2 ⟨ZT,rfl,Hg,Hh,th⟩;have W:=ae Hg;have Hu:=ae Hh;have B2:=ae (B1.out.trans (th.aa Ha (by have:=B1.out.size;omega)));clear Hg Hh th ro At;simp only[Turn.v];have GS:=ae (W.out.al (N #[ZC ZT.t.K,J I ZT.t.M,U ZT.t.H,ZC ZT.t.ask,U ZT.t.e,J I ZT.t.j] 150));have ZL:=ae (Cm w2 ZT.t 150);have B3:=ae (B2.out.alloc (by have:=B2.out.size;omega) (N #[ZC ZT.t.K,J I ZT.t.M,U ZT.t.H,ZC ZT.t.ask,U ZT.t.e,J I ZT.t.j] 150));have d5:=(B3.out.cell (p:=(Q (z (B w)+1) 5 Z)) (show (z (B w))+1<z (B w)+3 by omega)).trans mv;have ur:z (B w)+3<=z (B w2):=by have:=B2.out.size;omega
 have Hx:b<z (B w2):=W.out.lt;go_wp2;clear d5 W B2;generalize World.alloc w2 _=W3 at GS ZL B3 ⊢;generalize (z (B w2))=g7 at ZL ur Hx ⊢;go_loopw [19] (λi wr=>∃(k:Nat) (s:Mst) (H:Halt),k<=(f p).f/\i=J I k/\Hid (MAt wr b (Y (T (Q u x Z)) (f p).h o) s)/\Hid (TurnBox wr g7 s.t)/\Hid (eK s H)/\Hid (gi k H)/\Hid (∀n,k<=n->ed (f p).u (f p).h (yOf f p) n H=bZ (f p).u (f p).h (yOf f p) n 2001 0 0 0 [])/\Hid (ee f p ((f p).f - k) k=bu f p)/\Hid (Below (z (B w)+3) WA wr)) (λi _=>(f p).f - (intOf i).toNat);case atStart=>exact⟨0,ZT,H0,by omega,rfl,GS.out,ZL.out,Hu.out,H9.out,λn _=>Ia.out (yOf f p) n,rfl,B3.out⟩
 case round =>
  obtain⟨k,s,H,hkN,rfl,HM,TB,HS,HL,HC,ld,BW⟩:=hrel;have X:=ae (P.out.trans (BW.out.mono (by omega)));have ZJ:Hid (s.t=bo f p k):=by show _=_;rw[<-nM (f:=(f p).u) (cnt:=(f p).h) (y:=yOf f p) HS.out HL.out];exact HC.out k ly
  by_cases ex:k<(f p).f
  ·obtain⟨bl,offl,rfl,Fk⟩:=(Hy.out.aa X.out ly).resolve_left (by omega);obtain⟨r0,r1,r2,r3⟩:=Fk.2 k ex;obtain⟨l,hl⟩:∃l,(f p).m k=l:=⟨_,rfl⟩
   rw[hl] at r0 r1 r2 r3;obtain⟨nm,ask,G,at_⟩:=l;dsimp only at r0 r1 r2 r3;have D:=ae hl;clear Fk hl;obtain⟨j0,Hd⟩:∃j0,(f p).f - k=j0+1:=⟨(f p).f - k - 1,by omega⟩
   have ZP:=ae (BW.out.alloc (by have:=BW.out.size;omega) (N #[U nm,ZC ask,ZC G,J I at_] 129));have TL:=ae (TB.out.aa ((BS wr).alloc ly (N #[U nm,ZC ask,ZC G,J I at_] 129)) TB.out.1);have ML:=ae (HM.out.al (N #[U nm,ZC ask,ZC G,J I at_] 129));obtain⟨tl,⟨t0,t1,t2,t3,t4,t5⟩,tz⟩:=TL.out;clear tz;have WY:(ec f p k=ZD/\(s.t.K=ZD∨s.t.K=ZA/\((s.t.e.toList == nm.toList)=ZA∨(s.t.e.toList == nm.toList)=ZD/\(s.t.ask=ZD/\ask=ZA∨s.t.ask=ZA/\ask=ZD))))∨(ec f p k=ZA/\s.t.K=ZA/\(s.t.e.toList == nm.toList)=ZD/\s.t.ask=ask):=by unfold ec;rw[<-ZJ.out,D.out];cases s.t.K<;>cases (s.t.e.toList == nm.toList)<;>cases s.t.ask<;>cases ask<;>simp
   rcases WY with ⟨ZR,WY⟩|⟨ZR,M,hn,ZQ⟩
   ·replace ZR:=ae ZR;have ZO:Hid (R=k):=by show _=_;rw[ZN.out,<-ld.out,Hd,uj ZR.out]
    have n8:Hid (ZM=s.t):=by show _=_;rw[He.out,<-ZN.out,ZO.out,ZJ.out]
    have d5:=(ZP.out.cell (p:=(Q (z (B w)+1) 5 Z)) (show (z (B w))+1<z (B w)+3 by omega)).trans mv;have CW:=ae (P.out.trans (ZP.out.mono (by omega)));have SX:=ae (XA.out.aa ZP.out (by omega));have hx:=SX.out.1;obtain⟨⟨v0,q0,y0⟩,⟨v1,q1,y1⟩,⟨v2,q2,y2⟩,⟨v3,q3,y3⟩,⟨v4,q4,y4⟩,⟨v5,q5,y5⟩⟩:=bl6 SX.out.2;rcases WY with M|⟨M,hn|⟨hn,⟨ZQ,rfl⟩|⟨ZQ,rfl⟩⟩⟩
    all_goals
     rw[M] at t0
     (try rw[ZQ] at t3)
     go_wp2_with fail;go_region;all_goals
      go_wp2;exact bp (v:=.tuple #[ZM.v,J I (((f p).f:Int) - (R:Int))]) (by rw[n8.out,ZO.out];first|simp[results,results87,go_sem,Turn.v,M,ZQ,q0,q1,q2,q3,q4,q5]|simp[results,results87,go_sem,Turn.v,M,q0,q1,q2,q3,q4,q5]) rfl ⟨rfl,(fG CW.out (by omega) _ _ _ _ _ _).drew⟩
   ·replace ZR:=ae ZR;rw[M] at t0;rw[ZQ] at t3;obtain⟨a,Hp,s2,pp,st,l,rfl⟩:=nN HS.out M;have el:l=k+1:=HL.out;subst el;have qr:=(ZP.out.cell (p:=(Q (z (B w)) 0 Z)) (show (z (B w))<z (B w)+3 by omega)).trans kA;have CW:=ae (P.out.trans (ZP.out.mono (by omega)));have HY:Hid (ej f ⟨nm,ask,G,at_⟩=yOf f p k):=by show _=_;unfold yOf;rw[D.out]
    have Hm:=ae (wM (l:=⟨nm,ask,G,at_⟩) K.out (λS=>by have:=ZK.out k ex (by rw[D.out];exact S);rw[D.out] at this;exact this.2));have Hr:Hid ((ej f ⟨nm,ask,G,at_⟩).H.size<=2000):=by have:=Hm.out;simp only[cD,p6] at this;exact this.1
    have Ht:Hid (ask=ZD->0<=at_/\at_.toNat<n):=λS=>by have:=ZK.out k ex (by rw[D.out];exact S);rw[D.out] at this;exact this
    cases ask
    all_goals
     go_wp2_with fail;clear t0 t1 t2 t3 t4 t5 r0 r1 r2 r3;generalize World.alloc wr _=WL at ZP TL ML CW qr tl ⊢;first|(guard_hyp ZQ:s.t.ask=ZD;refine(nO ZS q n cap f ⟨nm,ZD,G,at_⟩ _ K.out (n9.out.aa CW.out ly) (λ_=>Ht.out (by simp))).mono ?_)|refine(nO ZS q n cap f ⟨nm,ZA,G,at_⟩ _ K.out (n9.out.aa CW.out ly) (λh=>by cases h)).mono ?_
     rintro e w4 ⟨rfl,O⟩;have Hn:b<z (B WL):=ML.out.lt;have M4:=ae (ML.out.aa O Hn);have T4:=ae (TL.out.aa O tl);have B4:=ae (ZP.out.trans (O.mono (by have:=ZP.out.size;omega)));have n7:=ae (P.out.trans (B4.out.mono (by omega)));have Hw:Hid (Env w4 b u x (f p).h (f p).u):=⟨HI.out.aa n7.out ly,sm.out.aa n7.out Fm,V.out.aa n7.out ly,by omega,by omega,by omega⟩
     clear O qr;go_wp2_with fail;refine(mC b u x (f p).h o (f p).u s a Hp s2 pp st (k+1) _ _ M4.out Hw.out HS.out (by omega) Hr.out Hc Hf.out).mono ?_;rintro e w5 ⟨m2,H2,rfl,DQ,Hk,DE,Hj,fd⟩;have Fd:g7≠b:=by omega
     have T5:=ae (T4.out.ac fd Fd);have M5:=ae (DQ.boxed Fd m2.t);have X5:=ae (Fb m2.t T5.out);have B5:=ae (B4.out.trans (fd.aa Ha (by have:=B4.out.size;omega)));have B6:=ae (B5.out.trans ((oI (w:=w5) (g:=g7) m2.t).aa ur (by have:=B5.out.size;omega)));have H6:=ae Hk;have Ho:=ae DE;have Hq:Hid (∀n,k+1<=n->ed (f p).u (f p).h (yOf f p) n H2=bZ (f p).u (f p).h (yOf f p) n 2001 0 0 0 []):=λn hn=>(Hj (yOf f p) n hn (by rw[NG];exact HY.out.symm)).symm.trans (HC.out n (by omega));have Hv:Hid (ee f p ((f p).f - (k+1)) (k+1)=bu f p):=by show _=_;rw[<-ld.out,Hd,ui ZR.out,show(f p).f - (k+1)=j0 by omega]
     obtain⟨ul,⟨u0,u1,u2,u3,u4,u5⟩,uz⟩:=T5.out;obtain⟨z0,z1,z2,z3,z4,z5⟩:=al6 uz;clear DQ Hk DE Hj fd M4 T4 uz;simp only[Turn.v];go_wp2;exact⟨⟨k+1,m2,H2,by omega,by go_num,M5.out,X5.out,H6.out,Ho.out,Hq.out,Hv.out,B6.out⟩,by simp[intOf];omega⟩
  ·obtain rfl:k=(f p).f:=by omega
   have ZO:Hid (R=(f p).f):=by show _=_;rw[ZN.out,<-ld.out,SU];rfl
   have n8:Hid (ZM=s.t):=by show _=_;rw[He.out,<-ZN.out,ZO.out,ZJ.out]
   obtain⟨tl,⟨t0,t1,t2,t3,t4,t5⟩,tz⟩:=TB.out;have SX:=ae (XA.out.aa BW.out (by omega));have hx:=SX.out.1;obtain⟨⟨v0,q0,y0⟩,⟨v1,q1,y1⟩,⟨v2,q2,y2⟩,⟨v3,q3,y3⟩,⟨v4,q4,y4⟩,⟨v5,q5,y5⟩⟩:=bl6 SX.out.2;clear tz;go_wp2;exact bp (v:=.tuple #[ZM.v,J I (((f p).f:Int) - (R:Int))]) (by rw[n8.out,ZO.out];simp[results,results87,go_sem,Turn.v,q0,q1,q2,q3,q4,q5]) rfl ⟨rfl,by first|exact fG X.out (by omega) _ _ _ _ _ _|exact fG X.out.drew (by omega) _ _ _ _ _ _⟩
def jl (f:Nat->au)(p:Nat):Bool:=if (f p).L=3 then (!(bo f p (bu f p)).K || decide (bu f p<(f p).f)) else ZA
def oK (f:Nat->au)(p:Nat):Bool:=if (f p).L=3 then (!decide ((bo f p (bu f p)).M=(f p).M) || !((bo f p (bu f p)).H.toList == (f p).H.toList)) else ZA
theorem Fo (f:Nat->au)(p:Nat):codeF f p=if jl f p=ZD then 4 else if oK f p=ZD then 5 else 0:=by
 unfold codeF jl oK;by_cases b:(f p).L=3
 ·rw[j6 b,j6 b,j6 b];unfold fP;by_cases h1:bu f p<(f p).f;{simp[h1]}
  ·cases ho:(bo f p (bu f p)).K with
   |false=>simp[h1]
   |true =>
    by_cases h2:(bo f p (bu f p)).M=(f p).M
    ·by_cases g:(bo f p (bu f p)).H.toList=(f p).H.toList;{simp[h1,h2,g]}
     ·have h:((bo f p (bu f p)).H.toList == (f p).H.toList)=ZA:=by simpa using g
      simp[h1,h2,g,h]
    {simp[h1,h2]}
 {rw[eT b,eT b,eT b];simp}
theorem mG{a:Option Addr}{f:Nat->Ins}(h:SlIns w a n f)(l:valid f n=ZD):∃g i,a=T (Q g i Z)/\RowIns w g i n f:=by
 have hn:=(bF l).2;rcases h with h|⟨b,off,e,j⟩
 {omega};{exact⟨b,off,e,j⟩}
theorem vK (ZQ:Option Addr)(ZP ZN:Nat)(G:Option Addr)(D L:Nat)(C b n cap:Nat)(f:Nat->au)(p:Nat)(a0:Option Addr)(i:Nat)(a1:Option Addr)(j:Nat)(w:E)(l:bv f n=ZD)(ZL:p<n)(y:RowDeed w C b n f)(hI:SlIns w a0 (f p).h (f p).u)(M:SlLink w a1 (f p).f (f p).m)(s:Tab2 w)(x:Pow w):Calls Pg 39 #[ZG #[Y (T (Q C b Z)) n cap,Y ZQ ZP ZN,Y G D L],ZG #[U (f p).e,J I (f p).L,J I (f p).M,U (f p).H,Y a0 (f p).h i,Y a1 (f p).f j]] w λe w'=>e=ZF (ZC (jl f p))/\Below (z (B w)) w w':=by
 obtain⟨r,O⟩:∃r,r=jl f p:=⟨_,rfl⟩
 rw[<-O];have ZM:=ae (show r=if (f p).L=3 then (!(bo f p (bu f p)).K || decide (bu f p<(f p).f)) else ZA from O);clear O;have ZT:=ae (((BS w).alloc ly (N #[Y (T (Q C b Z)) n cap,Y ZQ ZP ZN,Y G D L] 77)).alloc (by simp) (N #[U (f p).e,J I (f p).L,J I (f p).M,U (f p).H,Y a0 (f p).h i,Y a1 (f p).f j] 46));have R:=ae y;have ZI:=ae hI;have bt:=ae M;have ZK:=ae s;have S:=ae x;have V:=s.1;clear y hI M s x;by_cases m:(f p).L=3
 ·have ZS:valid (f p).u (f p).h=ZD:=by
   rcases(dU l p ZL).2 with h|h|h;{omega};{omega};{exact h.2.2.2.1}
  obtain⟨pb,po,rfl,ZO⟩:=mG ZI.out ZS;have aq:=ae ZO;have HK:=ae m;have u:Hid (r=(!(bo f p (bu f p)).K || decide (bu f p<(f p).f))):=by show _=_;rw[ZM.out,j6 m]
  have K:=oJ f p (f p).f 0;have H:Hid (bu f p<=(f p).f):=by show ee f p (f p).f 0<=_;omega
  have P:=ae l;rw[m] at ZT;clear ZO ZS ZI l K ZM;have o:=λW (g:Below (z (B w)) w W)=>pN C b n cap f p pb po i a1 j W P.out ZL HK.out (R.out.aa g ly) (aq.out.aa g ly) (bt.out.aa g ly) (ZK.out.aa g V) (S.out.aa g ly);generalize bo f p (bu f p)=t at u o;generalize bu f p=q at u o H;rw[m] at o;have ZJ:=ae o;clear o;rw[m];go_enter func39,ntmps39;go_wp2_with fail;refine(ZJ.out _ ZT.out).mono ?_;rintro e w1 ⟨rfl,g⟩;have X:=ae (ZT.out.trans (g.mono ZT.out.size));have ZR:=ae (X.out.alloc X.out.size (N #[ZC t.K,J I t.M,U t.H,ZC t.ask,U t.e,J I t.j] 150));have K:=H.out;clear g;simp only[Turn.v];cases ho:t.K with
  |false =>
   obtain rfl:r=ZD:=by rw[u.out,ho];rfl
   rw[ho] at ZR;go_wp2;go_ret;exact⟨rfl,ZR.out⟩
  |true =>
   rw[ho] at ZR;by_cases hq:q<(f p).f
   ·obtain rfl:r=ZD:=by rw[u.out,ho];simp[hq]
    have hgt:(0:Int)<((f p).f:Int) - (q:Int):=by omega
    go_wp2;go_ret;exact⟨rfl,ZR.out⟩
   ·obtain rfl:r=ZA:=by rw[u.out,ho];simp[hq]
    have hz:((f p).f:Int) - (q:Int)=0:=by omega
    rw[hz];go_wp2;go_ret;exact⟨rfl,ZR.out⟩
 ·obtain rfl:r=ZA:=by rw[ZM.out,eT m]
  go_enter func39,ntmps39;go_wp2;go_ret;exact⟨rfl,ZT.out⟩
theorem zU (G:Option Addr)(ZP M:Nat)(H:Option Addr)(ZQ K:Nat)(D g n cap:Nat)(f:Nat->au)(p:Nat)(a0:Option Addr)(i:Nat)(a1:Option Addr)(j:Nat)(w:E)(l:bv f n=ZD)(ZL:p<n)(ZR:RowDeed w D g n f)(hI:SlIns w a0 (f p).h (f p).u)(L:SlLink w a1 (f p).f (f p).m)(u:Tab2 w)(y:Pow w):Calls Pg 40 #[ZG #[Y (T (Q D g Z)) n cap,Y G ZP M,Y H ZQ K],ZG #[U (f p).e,J I (f p).L,J I (f p).M,U (f p).H,Y a0 (f p).h i,Y a1 (f p).f j]] w λe w'=>e=ZF (ZC (oK f p))/\Below (z (B w)) w w':=by
 obtain⟨r,ZN⟩:∃r,r=oK f p:=⟨_,rfl⟩
 rw[<-ZN];have ZM:=ae (show r=if (f p).L=3 then (!decide ((bo f p (bu f p)).M=(f p).M) || !((bo f p (bu f p)).H.toList == (f p).H.toList)) else ZA from ZN);clear ZN;have ZT:=ae (((BS w).alloc ly (N #[Y (T (Q D g Z)) n cap,Y G ZP M,Y H ZQ K] 77)).alloc (by simp) (N #[U (f p).e,J I (f p).L,J I (f p).M,U (f p).H,Y a0 (f p).h i,Y a1 (f p).f j] 46));have R:=ae ZR;have X:=ae hI;have aq:=ae L;have ZK:=ae u;have S:=ae y;have V:=u.1;clear ZR hI L u y;by_cases o:(f p).L=3
 ·have ZS:valid (f p).u (f p).h=ZD:=by
   rcases(dU l p ZL).2 with h|h|h;{omega};{omega};{exact h.2.2.2.1}
  obtain⟨pb,po,rfl,ZO⟩:=mG X.out ZS;have ZJ:=ae ZO;have HK:=ae o;have x:Hid (r=(!decide ((bo f p (bu f p)).M=(f p).M) || !((bo f p (bu f p)).H.toList == (f p).H.toList))):=by show _=_;rw[ZM.out,j6 o]
  have O:=ae l;rw[o] at ZT;clear ZO ZS X l ZM;have s:=λW (b:Below (z (B w)) w W)=>pN D g n cap f p pb po i a1 j W O.out ZL HK.out (R.out.aa b ly) (ZJ.out.aa b ly) (aq.out.aa b ly) (ZK.out.aa b V) (S.out.aa b ly);generalize bo f p (bu f p)=t at x s;generalize bu f p=q at x s;rw[o] at s;have ZI:=ae s;clear s;rw[o];go_enter func40,ntmps40;go_wp2_with fail;refine(ZI.out _ ZT.out).mono ?_;rintro e P ⟨rfl,b⟩;have d2:A P (Q (z (B w)+1) 2 Z)=T (J I (f p).M):=(b.cell (p:=(Q (z (B w)+1) 2 Z)) (by simp)).trans (by simp[go_sem]);have d3:A P (Q (z (B w)+1) 3 Z)=T (U (f p).H):=(b.cell (p:=(Q (z (B w)+1) 3 Z)) (by simp)).trans (by simp[go_sem]);have hz1:z (B w)+1<z (B P):=by have:=b.size;simp at this;omega
  have m:=ae (ZT.out.trans (b.mono ZT.out.size));clear b;simp only[Turn.v];by_cases C:t.M=(f p).M
  ·cases ht:(t.H.toList == (f p).H.toList) with
   |true =>
    obtain rfl:r=ZA:=by rw[x.out];simp[C,ht]
    go_wp2;go_ret;exact⟨rfl,m.out.alloc m.out.size _⟩
   |false =>
    obtain rfl:r=ZD:=by rw[x.out];simp[C,ht]
    go_wp2;go_ret;exact⟨rfl,m.out.alloc m.out.size _⟩
  ·obtain rfl:r=ZD:=by rw[x.out];simp[C]
   have hc2:(t.M == (f p).M)=ZA:=by simpa using C
   go_wp2;go_ret;exact⟨rfl,m.out.alloc m.out.size _⟩
 ·obtain rfl:r=ZA:=by rw[ZM.out,eT o]
  go_enter func40,ntmps40;go_wp2;go_ret;exact⟨rfl,ZT.out⟩
theorem mH (r b n cap:Nat)(f:Nat->au)(l:Link)(w:E)(h:RowDeed w r b n f)(s:l.ask=ZD->0<=l.G/\l.G.toNat<n):Calls Pg 90 #[ZG #[Y (T (Q r b Z)) n cap],ZG #[U l.e,ZC l.ask,ZC l.has,J I l.G]] w λe w'=>e=ZF (ZG #[ZC (ej f l).has,J I (ej f l).M,U (ej f l).H])/\Below (z (B w)) w w':=by
 have y:=ae h;have q:=ae s;have g:=ae (show ej f l=if l.ask=ZD then (if (f l.G.toNat).L=1 then ⟨ZD,0,(f l.G.toNat).H⟩ else if (f l.G.toNat).L=3 then ⟨ZD,(f l.G.toNat).M,(f l.G.toNat).H⟩ else ⟨ZA,0,⟨#[]⟩⟩) else ⟨l.has,0,⟨#[]⟩⟩ from rfl);clear h s;obtain⟨R,hR⟩:∃R,R=ej f l:=⟨_,rfl⟩
 rw[<-hR] at g ⊢;clear hR;obtain⟨nm,ask,o,at_⟩:=l;dsimp only at q g ⊢;have ZR:=ae ((((BS w).alloc ly (N #[Y (T (Q r b Z)) n cap] 25)).alloc (by simp) (N #[U nm,ZC ask,ZC o,J I at_] 129)).alloc (by simp;omega) (N #[ZC ZA,J I 0,U ⟨#[]⟩] 156));cases ask with
 |false =>
  obtain rfl:R=⟨o,0,⟨#[]⟩⟩:=by have:=g.out;simpa using this
  dsimp only;go_enter func90,ntmps90;go_wp2
  exact bp (v:=ZG #[ZC o,J I 0,U ⟨#[]⟩]) (by simp[results,UN,go_sem]) rfl ⟨rfl,by
   repeat (first|exact cM _ _|refine RF ?_ (by simp<;>omega) _)⟩
 |true =>
  obtain⟨h1,h2⟩:=q.out rfl;obtain⟨p,rfl⟩:=AD h1;have u:p<n:=by simpa using h2
  have i:=ae (show R=if (f p).L=1 then ⟨ZD,0,(f p).H⟩ else if (f p).L=3 then ⟨ZD,(f p).M,(f p).H⟩ else ⟨ZA,0,⟨#[]⟩⟩ by have:=g.out;simpa using this);clear g;obtain⟨p0,p1,p2,p3,⟨a2,cap2,p4,x⟩,⟨a3,cap3,p5,t⟩⟩:=(y.out.aa ZR.out ly).2 p u;clear x t q;have hpn:(p:Int)<n:=by omega
  go_enter func90,ntmps90;by_cases j:(f p).L=1
  ·obtain rfl:R=⟨ZD,0,(f p).H⟩:=by rw[i.out,j6 j]
   go_wp2
   exact bp (v:=ZG #[ZC ZD,J I 0,U (f p).H]) (by simp[results,UN,go_sem]) rfl ⟨rfl,by
    repeat (first|exact cM _ _|refine RF ?_ (by simp<;>omega) _)⟩
  ·by_cases m:(f p).L=3
   ·obtain rfl:R=⟨ZD,(f p).M,(f p).H⟩:=by rw[i.out,eT j,j6 m]
    go_wp2
    exact bp (v:=ZG #[ZC ZD,J I (f p).M,U (f p).H]) (by simp[results,UN,go_sem]) rfl ⟨rfl,by
     repeat (first|exact cM _ _|refine RF ?_ (by simp<;>omega) _)⟩
   ·obtain rfl:R=⟨ZA,0,⟨#[]⟩⟩:=by rw[i.out,eT j,eT m]
    go_wp2
    exact bp (v:=ZG #[ZC ZA,J I 0,U ⟨#[]⟩]) (by simp[results,UN,go_sem]) rfl ⟨rfl,by
     repeat (first|exact cM _ _|refine RF ?_ (by simp<;>omega) _)⟩
