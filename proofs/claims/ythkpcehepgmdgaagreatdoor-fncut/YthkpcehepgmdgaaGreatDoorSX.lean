import Derived.Test.YthkpcehepgmdgaaGreatDoorSQ
import Derived.Deep.WholeRow
import Derived.Deep.DeepCutAuto
set_option maxRecDepth 1000000
set_option maxHeartbeats 8000000
set_option linter.unusedSimpArgs false
open Go renaming Addr.mk->Q,Value.slice->Z,Value.string->U,Value.int->J,Value.bool->ZC,Value.agg->ZH,Obj.cells->N,IntKind.i64->I,World->G,Value->ZD,TypeId->ZI,Ending.returned->ZG,World.heap->h,World.ownsRow->ZY,World.alloc->ZV,World.cell?->ZW,World.frozen?->ZX,World.setCell->ZT,Proofs.Tryz.prog->Pg
open Option renaming none->Y,some->T
open Bool renaming false->ZB,true->ZF
open Array renaming size->A
open List renaming length->ZU
namespace Go.Proofs.YthkpcehepgmdgaaGreatDoor.Vp
open Tryz RowKit
variable {w w' u:G}{g base n cap b p B j l op:Nat}{e:ZI}{m:Mst}{f:Nat->af}{s r:List ByteArray}{y:Nat->ay}{x:ByteArray}{H:Halt}{t:Turn}{a:Option Addr}
theorem Cd (w b:G)(f:Array ZD)(ty:ZI)(ZM:Obj)(j:Nat)(v:ZD)(hz:A (h b)=A (h w))(g:f[j]?=T v):((b.alloc (N f ty)).alloc ZM).cell? (Q (A (h w)) j Y)=T v:=by rw[<-hz,((cM (b.alloc (N f ty)).heap.size _).alloc ly ZM).cell (p:=(Q (A (h b)) j Y)) (by simp)];simp[g]
def jY (m:Mst)(c:Int):Turn:=⟨ZF,c,m.t.e,ZB,⟨#[]⟩,m.j⟩
theorem zP{f:ZD}(hM:MAt w b f m)(x:Bool)(c:Int)(t:ByteArray):∃W,ZV (ZV (ZT (ZT (ZT (ZT (ZT (ZT w (Q b 55 Y) (ZC ZB)) (Q b 56 Y) (J I 0)) (Q b 57 Y) (U ⟨#[]⟩)) (Q b 58 Y) (ZC ZB)) (Q b 59 Y) (U ⟨#[]⟩)) (Q b 60 Y) (J I 0)) (N #[ZC x,J I c,U t] 125)) (N #[ZC m.t.K,J I m.t.E,U m.t.B,ZC m.t.ask,U m.t.e,J I m.t.j] 122)=W/\MAt W b f { m with t:=cW }/\Only b w W/\ZW W (Q (A (h w)) 0 Y)=T (ZC x)/\ZW W (Q (A (h w)) 1 Y)=T (J I c)/\ZW W (Q (A (h w)) 2 Y)=T (U t)/\ZW W (Q (A (h w)+1) 3 Y)=T (ZC m.t.ask)/\ZW W (Q (A (h w)+1) 4 Y)=T (U m.t.e)/\(A (h W))=A (h w)+2 :=
 ⟨_,rfl,((hM.setTurn cW).al _).al _,((Ef (Only.refl b w) cW).al _).al _,Cd w _ _ _ _ _ _ (by simp) rfl,Cd w _ _ _ _ _ _ (by simp) rfl,Cd w _ _ _ _ _ _ (by simp) rfl,jT _ _ _ _ _ _ (by simp) rfl,jT _ _ _ _ _ _ (by simp) rfl,by simp⟩
def mz (m:Mst)(x:Bool)(c:Int)(t:ByteArray):Mst :=
 if m.t.ask=ZB then { m with t:=cW,S:=upd m.S m.size (eJ x),size:=m.size+1 } else if x=ZB then { m with t:=jY m 4 } else if (c == 0)=ZB then { m with t:=jY m 5 } else { m with t:=cW,S:=upd m.S m.size t,size:=m.size+1 }
theorem Ce{u:Mst}{x:Bool}{c:Int}{t:ByteArray}(Z8:u=mz m x c t):(m.t.ask=ZB/\u={ m with t:=cW,S:=upd m.S m.size (eJ x),size:=m.size+1 })∨(m.t.ask=ZF/\x=ZB/\u={ m with t:=jY m 4 })∨(m.t.ask=ZF/\x=ZF/\(c == 0)=ZB/\u={ m with t:=jY m 5 })∨(m.t.ask=ZF/\x=ZF/\c=0/\u={ m with t:=cW,S:=upd m.S m.size t,size:=m.size+1 }):=by unfold mz at Z8;cases ha:m.t.ask<;>cases x<;>cases hc:(c == 0)<;>simp_all
theorem iV (b:Nat)(j:ZD)(m:Mst)(x:Bool)(c:Int)(t:ByteArray)(w:G)(hM:MAt w b j m)(O:m.size<50):Calls Pg 148 #[.pointer (T (Q b 0 Y)),ZH #[ZC x,J I c,U t]] w λe w'=>e=ZG (.tuple #[])/\MAt w' b j (mz m x c t)/\Only b w w':=by
 obtain⟨u,s⟩:∃u,u=mz m x c t:=⟨_,rfl⟩
 rw[<-s];have C:=ae (Ce s);clear s;have hlt:=hM.lt;obtain⟨⟨c5,M⟩,⟨E,K⟩,⟨ZP,ZO⟩,⟨L,H⟩,⟨ZS,ZQ⟩,B,z⟩:=hM.turn;obtain⟨W,y,l,o,q0,q1,q2,P,p4,hz⟩:=zP hM x c t;have D:=ae y;have Z8:=ae l;have p:=ae o;clear hM y l o;go_enter func148,ntmps148;go_upto_region 4 with fail;rw[D.out];clear D c5 E ZP L ZS B M K ZO H ZQ z;have hz0:A (h w)<A (h W):=by omega
 have hz1:A (h w)+1<A (h W):=by omega
 clear hz;rcases C.out with ⟨i,rfl⟩|⟨i,rfl,rfl⟩|⟨i,rfl,hc,rfl⟩|⟨i,rfl,rfl,rfl⟩
 all_goals
  rw[i] at P;clear C;go_wp2_with (go_at_call 156;refine(ke b j { m with t:=cW } _ _ _ Z8).mono ?_;rintro e r ⟨rfl,g,f⟩;have n:=ae g;have q:Hid (Only b w r):=p.trans f;clear g f)
  (try go_region_with (first|(go_at_call 155;refine(my _ _).mono ?_;rintro e w1 ⟨rfl,ZZ⟩;subst ZZ)|(go_at_call 154;refine(pV b j { m with t:=cW } _ _ ?_ O).mono ?_;(first|exact Z8|exact Z8.drew|exact Z8.drew.drew);rintro e r ⟨rfl,g,f⟩;have n:=ae g;have q:Hid (Only b w r):=Only.trans (by repeat (first|exact p|apply Only.drew)) f;clear g f)))
  all_goals
   (try go_wp2)
   refine mc rfl rfl ?_;exact⟨rfl,n,q⟩
theorem yk (b:Nat)(f:ZD)(m:Mst)(x:Bool)(c:Int)(t:ByteArray)(w:G)(hM:MAt w b f m)(g:m.t.ask=ZB)(i:m.size<50):Calls Pg 148 #[.pointer (T (Q b 0 Y)),ZH #[ZC x,J I c,U t]] w λe w'=>e=ZG (.tuple #[])/\MAt w' b f { m with t:=cW,S:=upd m.S m.size (eJ x),size:=m.size+1 }/\Only b w w':=by have Z8:=iV b f m x c t w hM i;rwa[mz,hU g] at Z8
theorem ym (b:Nat)(f:ZD)(m:Mst)(t:ByteArray)(w:G)(hM:MAt w b f m)(g:m.t.ask=ZF)(i:m.size<50):Calls Pg 148 #[.pointer (T (Q b 0 Y)),ZH #[ZC ZF,J I 0,U t]] w λe w'=>e=ZG (.tuple #[])/\MAt w' b f { m with t:=cW,S:=upd m.S m.size t,size:=m.size+1 }/\Only b w w':=by have Z8:=iV b f m ZF 0 t w hM i;rwa[mz,eT (by simp[g]),eT (by simp),eT (by simp)] at Z8
theorem qv (b:Nat)(f:ZD)(m:Mst)(c:Int)(t:ByteArray)(w:G)(hM:MAt w b f m)(g:m.t.ask=ZF)(i:m.size<50):Calls Pg 148 #[.pointer (T (Q b 0 Y)),ZH #[ZC ZB,J I c,U t]] w λe w'=>e=ZG (.tuple #[])/\MAt w' b f { m with t:=jY m 4 }/\Only b w w':=by have Z8:=iV b f m ZB c t w hM i;rwa[mz,eT (by simp[g]),hU rfl] at Z8
theorem ua (b:Nat)(f:ZD)(m:Mst)(c:Int)(t:ByteArray)(w:G)(hM:MAt w b f m)(i:m.t.ask=ZF)(g:(c == 0)=ZB)(j:m.size<50):Calls Pg 148 #[.pointer (T (Q b 0 Y)),ZH #[ZC ZF,J I c,U t]] w λe w'=>e=ZG (.tuple #[])/\MAt w' b f { m with t:=jY m 5 }/\Only b w w':=by have Z8:=iV b f m ZF c t w hM j;rwa[mz,eT (by simp[i]),eT (by simp),hU g] at Z8
def m0:Mst:={ S:=λ_=>⟨#[]⟩,size:=0,W:=0,j:=0,D:=0,t:=cW }
def ik (b:ZD):Array ZD:=(Array.range 61).map (m0.F b)
theorem Gf (a:Option Addr)(n cap:Nat):Pg.built 206 [(1,Z a n cap)]=T (ik (Z a n cap)):=by kernel_rfl
theorem infoM:(Pg.info? 206).map (·.size)=T 61:=by kernel_rfl
theorem pE (b:ZD):(ik b).size=61:=by simp[ik]
theorem Cf (b:ZD)(j:Nat)(Z8:j<61):(ik b)[j]?=T (m0.F b j):=by simp[ik,Z8]
theorem zQ (a:Option Addr)(n cap:Nat):(ik (Z a n cap)).all (·.oneCell')=ZF:=by kernel_rfl
theorem Cg (w:G)(a:Option Addr)(n cap:Nat):MAt (w.alloc (N (ik (Z a n cap)) 206)) (A (h w)) (Z a n cap) m0:=by
 refine⟨by simp,λj b=>⟨?_,?_⟩⟩;{rw[World.cell?_alloc_new];exact Cf _ j b};{simp}
theorem Ci{P:Program}{f:Array Oper}{rest:List Oper}{o:Oper}{a:Act}{ZN:Exit->Act->G->Prop}(j:o.guard=Y)(t:ZI)(b:Array (Nat × Operand))(m:o.op=.build t b)
  (l:List (Nat × ZD)) (cells:Array ZD) (g:(b.map λ(i,x)=>(i,a.eval x)).toList=l) (hb:P.built t l=T cells) (Z8:wpList P f ZN rest (a.put o.dst (ZH cells)) w):wpList P f ZN (o::rest) a w:=by
 refine wpList_build j t b m (by rw[g,hb];rfl) ?_;rw[g,hb];exact Z8
theorem Pow.lt (Z8:Pow w):2<A (h w):=by
 have f:=PR gPow Z8 0;rcases MJ 2 (A (h w)) with b|b;{exact b};{simp[World.cell?,MO b,Lib.pow10Tab] at f}
theorem Sim.push{st:Nat}(b:Sim m p st l s)(x:ByteArray)(f:x.size<=2000)(hl:ZU s<50):Sim { m with t:=cW,S:=upd m.S m.size x,size:=m.size+1 } p st l (x::s) :=
 ⟨by rw[b.size];exact b.rep.push x,by simp[b.size],by simp;omega,b.hpl,b.hst,b.hlk,λz hz=>by
  rcases BS.1 hz with rfl|hz
  ·exact f
  ·exact b.le z hz,b.pl,b.st,b.lk⟩
theorem iW (b:Bool):(eJ b).size<=2000:=by cases b<;>decide
def Six (w:G)(g:Nat):Prop:=g<A (h w)/\∀j,j<6->∃v,ZW w (Q g j Y)=T v/\ZX w (Q g j Y)=ZB
theorem Six.aa{f:G}(Z8:Six w g)(b:Below B w f)(i:g<B):Six f g:=⟨lj Z8.1 b.size,λj l=>by
 obtain⟨v,h1,h2⟩:=Z8.2 j l
 exact⟨v,(b.cell (p:=(Q g j Y)) i).trans h1,(b.frozen (p:=(Q g j Y)) i).trans h2⟩⟩
theorem Six.ac{i:G}(Z8:Six w g)(f:Only b w i)(l:g≠b):Six i g:=⟨lj Z8.1 f.size,λj m=>by
 obtain⟨v,h1,h2⟩:=Z8.2 j m
 exact⟨v,(f.cell g j Z8.1 l).trans h1,(f.frozen g j Z8.1 l).trans h2⟩⟩
theorem ku (w:G)(v0 v1 v2 v3 v4 v5:ZD)(t:ZI):Six (ZV w (N #[v0,v1,v2,v3,v4,v5] t)) (A (h w)):=⟨by simp,λj hj=>by
 rcases(show j=0∨j=1∨j=2∨j=3∨j=4∨j=5 by omega) with rfl|rfl|rfl|rfl|rfl|rfl
 all_goals exact⟨_,by simp;rfl,by simp⟩⟩
theorem fJ (Z8:Below B u w)(b:B<=g)(v0 v1 v2 v3 v4 v5:ZD):Below B u (ZT (ZT (ZT (ZT (ZT (ZT w (Q g 0 Y) v0) (Q g 1 Y) v1) (Q g 2 Y) v2) (Q g 3 Y) v3) (Q g 4 Y) v4) (Q g 5 Y) v5) :=
 (((((Z8.setCell b v0).setCell b v1).setCell b v2).setCell b v3).setCell b v4).setCell b v5
def Goes (f:Nat->Ins)(cnt:Nat)(m:Mst)(H:Halt):Prop:=(m.t=cW/\∃p k l s,Sim m p k l s/\lA f cnt (2001 - k) p k l s=T H)∨fC m H
def badT:Turn:=⟨ZB,9,⟨#[]⟩,ZB,⟨#[]⟩,0⟩
def nr (f:Nat->Ins)(cnt:Nat)(y:Nat->ay)(n:Nat):Turn:=if valid f cnt=ZB then badT else if 200<n then badT else if bP y n=ZB then badT else bW f cnt y n 2001 0 0 0 []
theorem oE{f:Nat->Ins}{cnt:Nat}{st:Nat}(g:m.t=cW)(b:Sim m p st l s):∃H,Goes f cnt m H/\jd l H/\∀y n,fh f cnt y n H=bW f cnt y n (2001 - st) p st l s:=by obtain⟨H,hH⟩:=zL f cnt (2001 - st) p st l s b.st (by have:=b.st;omega);exact⟨H,.inl ⟨g,p,st,l,s,b,hH⟩,(tT f cnt (λ_=>⟨ZB,0,⟨#[]⟩⟩) 0 _ p st l s H b.st rfl hH).2,λy n=>(tT f cnt y n _ p st l s H b.st rfl hH).1.symm⟩
theorem vC (b:Nat)(q:ZD)(f:Nat->Ins)(cnt:Nat)(m:Mst)(a:Bool)(nm:ByteArray)(s:List ByteArray)(p st l:Nat)(r:ay)(w:G)(hM:MAt w b q m)(H:fC m (.inr (a,nm,s,p,st,l)))(hl:1<=l)(ZQ:r.B.size<=2000):Calls Pg 148 #[.pointer (T (Q b 0 Y)),ZH #[ZC r.has,J I r.E,U r.B]] w λe w'=>e=ZG (.tuple #[])/\∃ZS i,MAt w' b q ZS/\Goes f cnt ZS i/\jd l i/\(∀y n,l<=n->y (l - 1)=r->fh f cnt y n (.inr (a,nm,s,p,st,l))=fh f cnt y n i)/\Only b w w':=by
 obtain⟨E,u,hnm,D⟩:=H;have x:m.t.ask=a:=by rw[E]
 have z:m.t.e=nm:=by rw[E]
 have hz:m.size<50:=by rw[u.size];exact D
 cases a with
 |false =>refine(yk b q m r.has r.E r.B w hM x hz).mono ?_;rintro e w' ⟨rfl,g,Z8⟩;obtain⟨i,ZZ,C,B⟩:=oE (f:=f) (cnt:=cnt) (m:={ m with t:=cW,S:=upd m.S m.size (eJ r.has),size:=m.size+1 }) rfl (u.push (eJ r.has) (iW _) D);refine⟨rfl,_,i,g,ZZ,C,λy n hn j=>?_,Z8⟩;rw[B y n];simp only[fh,j];rw[eT (by omega),hU trivial]
 |true =>
  by_cases h1:r.has=ZB;{rw[h1];refine(qv b q m r.E r.B w hM x hz).mono ?_;rintro e w' ⟨rfl,g,Z8⟩;refine⟨rfl,_,.inl (4,nm,st),g,.inr ?_,trivial,λy n hn j=>?_,Z8⟩;{show jY m 4=_;simp only[jY,z,u.hst]};{simp only[fh,j];rw[eT (by omega)];simp[h1]}}
  ·have o:r.has=ZF:=by simpa using h1
   by_cases h2:r.E=0;{rw[o,h2];refine(ym b q m r.B w hM x hz).mono ?_;rintro e w' ⟨rfl,g,Z8⟩;obtain⟨i,ZZ,C,B⟩:=oE (f:=f) (cnt:=cnt) (m:={ m with t:=cW,S:=upd m.S m.size r.B,size:=m.size+1 }) rfl (u.push r.B ZQ D);refine⟨rfl,_,i,g,ZZ,C,λy n hn j=>?_,Z8⟩;rw[B y n];simp only[fh,j];rw[eT (by omega)];simp[o,h2]};{rw[o];refine(ua b q m r.E r.B w hM x (by simpa using h2) hz).mono ?_;rintro e w' ⟨rfl,g,Z8⟩;refine⟨rfl,_,.inl (5,nm,st),g,.inr ?_,trivial,λy n hn j=>?_,Z8⟩;{show jY m 5=_;simp only[jY,z,u.hst]};{simp only[fh,j];rw[eT (by omega)];simp[o,h2]}}
theorem zR (pb f cnt cap:Nat)(w:G):Calls Pg 136 #[ZH #[Z (T (Q pb f Y)) cnt cap]] w λe w'=>∃b,e=ZG (.func (.func 147) #[] #[.pointer (T (Q b 0 Y))])/\(A (h w))<=b/\MAt w' b (Z (T (Q pb f Y)) cnt cap) m0/\Below (A (h w)) w w':=by
 have Z8:=ae ((q9 w).alloc ly (N #[Z (T (Q pb f Y)) cnt cap] 41));have k0:ZW (ZV w (N #[Z (T (Q pb f Y)) cnt cap] 41)) (Q (A (h w)) 0 Y)=T (Z (T (Q pb f Y)) cnt cap):=by simp
 have z0:A (h (ZV w (N #[Z (T (Q pb f Y)) cnt cap] 41)))=A (h w)+1:=by simp
 have g:=ae (Cg (ZV w (N #[Z (T (Q pb f Y)) cnt cap] 41)) (T (Q pb f Y)) cnt cap);have i:=ae (by have:=g.out;rw[z0] at this;exact this);have j:=ae (Z8.alloc Z8.size (N (ik (Z (T (Q pb f Y)) cnt cap)) 206));go_enter func136,ntmps136
 go_wp2_with (first
  |(refine Ci rfl 206 #[(1,.tmp 5)] rfl [(1,Z (T (Q pb f Y)) cnt cap)] (ik (Z (T (Q pb f Y)) cnt cap)) (by simp[Act.eval]) (Gf _ _ _) ?_)
  |(refine wpList_store_row rfl 206 (.tmp 3) (.tmp 6) rfl (A (h w)+1) (ik (Z (T (Q pb f Y)) cnt cap)) rfl rfl _ _ (by rw[<-z0];exact heap_alloc_last _ _) (infoM.trans (by rw[pE])) (by rw[pE];rfl) (zQ _ _ _) ?_;rw[<-z0,World.setRow_alloc_new])
  |fail)
 go_ret;exact⟨_,rfl,by first|(simp;done)|(simp;omega),i,j⟩
theorem yn (b pb n cnt cap:Nat)(f:Nat->Ins)(m:Mst)(H:Halt)(r:ay)(w:G)(hM:MAt w b (Z (T (Q pb n Y)) cnt cap) m)(C:Env w b pb n cnt f)(hn:m.t.e=⟨#[]⟩)(L:cnt<=200)(ZP:da f cnt=ZF)(ZZ:Goes f cnt m H):Calls Pg 147 #[ZH #[ZC r.has,J I r.E,U r.B],.pointer (T (Q b 0 Y))] w λe w'=>∃u,e=ZG u.t.v/\MAt w' b (Z (T (Q pb n Y)) cnt cap) u/\fC u H/\Only b w w':=by
 have ZS:=hM.lt;have i:=ae ((hM.al (N #[ZC r.has,J I r.E,U r.B] 125)).al (N #[ZC ZB,J I 0,U ⟨#[]⟩,ZC ZB,U ⟨#[]⟩,J I 0] 122));have j:=ae (((Only.refl b w).al (N #[ZC r.has,J I r.E,U r.B] 125)).al (N #[ZC ZB,J I 0,U ⟨#[]⟩,ZC ZB,U ⟨#[]⟩,J I 0] 122));have l:=ku (ZV w (N #[ZC r.has,J I r.E,U r.B] 125)) (ZC ZB) (J I 0) (U ⟨#[]⟩) (ZC ZB) (U ⟨#[]⟩) (J I 0) 122;rw[show (A (h (ZV w (N #[ZC r.has,J I r.E,U r.B] 125))))=A (h w)+1 by simp] at l;have y:=ae l;have P:=ae C;have S:=ae ZZ;obtain⟨⟨c5,z5⟩,⟨ZO,ZK⟩,⟨X,z7⟩,⟨ZJ,ZM⟩,⟨z,W⟩,ZQ,E⟩:=i.turn;rw[hn] at z;clear hM C ZZ l c5 z5 ZO ZK X z7 ZJ ZM W ZQ E;go_enter func147,ntmps147;go_wp2_with fail;clear z;generalize World.alloc (World.alloc w _) _=O at i j y ⊢;have hb0:b<A (h O):=i.lt;refine(wG b pb n cnt cap f m H _ i (P.ac ZS j) L ZP S).mono ?_;rintro e M ⟨g,rfl,q,s,p⟩;have o:=ae p;clear p;have B:=ae (y.ac o (by omega));have hx3:A (h w)+1<A (h M):=B.1;have x:=ae q;have D:=ae s;have K:=ae (j.trans o);clear q s;obtain⟨⟨v0,q0,y0⟩,⟨v1,q1,y1⟩,⟨v2,V,y2⟩,⟨v3,q3,y3⟩,⟨v4,ZL,y4⟩,⟨v5,R,y5⟩⟩:=bl6 B.2;have Z8:A (h w)+1≠b:=by omega
 have MM:=ae ((((((x.other (A (h w)+1) 0 (ZC g.t.K) Z8).other (A (h w)+1) 1 (J I g.t.E) Z8).other (A (h w)+1) 2 (U g.t.B) Z8).other (A (h w)+1) 3 (ZC g.t.ask) Z8).other (A (h w)+1) 4 (U g.t.e) Z8).other (A (h w)+1) 5 (J I g.t.j) Z8);have ZN:=ae ((((((K.X (A (h w)+1) 0 (ZC g.t.K) (by omega)).X (A (h w)+1) 1 (J I g.t.E) (by omega)).X (A (h w)+1) 2 (U g.t.B) (by omega)).X (A (h w)+1) 3 (ZC g.t.ask) (by omega)).X (A (h w)+1) 4 (U g.t.e) (by omega)).X (A (h w)+1) 5 (J I g.t.j) (by omega));simp only[Turn.v];go_wp2;exact bp (v:=g.t.v) (by simp[results,results147,go_sem,Turn.v,q0,q1,V,q3,ZL,R]) rfl ⟨g,rfl,MM,D,ZN⟩
theorem zS (b pb q cnt cap:Nat)(f:Nat->Ins)(m:Mst)(a:Bool)(nm:ByteArray)(s:List ByteArray)(p st l:Nat)(r:ay)(w:G)(hM:MAt w b (Z (T (Q pb q Y)) cnt cap) m)(ZJ:Env w b pb q cnt f)(z:fC m (.inr (a,nm,s,p,st,l)))(hl:1<=l)(hr:r.B.size<=2000)(hc:cnt<=200)(P:da f cnt=ZF):Calls Pg 147 #[ZH #[ZC r.has,J I r.E,U r.B],.pointer (T (Q b 0 Y))] w λe w'=>∃M o,e=ZG M.t.v/\MAt w' b (Z (T (Q pb q Y)) cnt cap) M/\fC M o/\jd l o/\(∀y n,l<=n->y (l - 1)=r->fh f cnt y n (.inr (a,nm,s,p,st,l))=fh f cnt y n o)/\Only b w w':=by
 have W:=hM.lt;have j:=ae ((hM.al (N #[ZC r.has,J I r.E,U r.B] 125)).al (N #[ZC ZB,J I 0,U ⟨#[]⟩,ZC ZB,U ⟨#[]⟩,J I 0] 122));have u:=ae (((Only.refl b w).al (N #[ZC r.has,J I r.E,U r.B] 125)).al (N #[ZC ZB,J I 0,U ⟨#[]⟩,ZC ZB,U ⟨#[]⟩,J I 0] 122));have x:=ku (ZV w (N #[ZC r.has,J I r.E,U r.B] 125)) (ZC ZB) (J I 0) (U ⟨#[]⟩) (ZC ZB) (U ⟨#[]⟩) (J I 0) 122;rw[show (A (h (ZV w (N #[ZC r.has,J I r.E,U r.B] 125))))=A (h w)+1 by simp] at x;have ZO:=ae x;have HE:=ae ZJ;have HS:=ae z;have ZZ:m.t.e=nm:=by have:=z.1;rw[this]
 have i:nm.toList.isEmpty=ZB:=by
  have hn:=z.2.2.1;have h0:¬ nm.size=0:=by simp only[av,j5,nX] at hn;omega
  have:=lY h0;cases Z8:nm.toList with
  |nil=>exact absurd Z8 this
  |cons _ _=>rfl
 obtain⟨⟨c5,z5⟩,⟨c6,z6⟩,⟨c7,z7⟩,⟨c8,z8⟩,⟨O,z9⟩,bt,aq⟩:=j.turn;rw[ZZ] at O;clear hM ZJ z x ZZ c5 z5 c6 z6 c7 z7 c8 z8 z9 bt aq;go_enter func147,ntmps147;go_wp2_with fail;clear O i;generalize World.alloc (World.alloc w _) _=W0 at j u ZO ⊢;have hb0:b<A (h W0):=j.lt;refine(vC b (Z (T (Q pb q Y)) cnt cap) f cnt m a nm s p st l r _ j HS hl hr).mono ?_;rintro e w1 ⟨rfl,m1,o,ZQ,B,E,D,K⟩;have ZK:=ae ZQ;have R:=ae B;have V:=ae E;have X:=ae D;have H:=ae K;clear ZQ B E D K;go_wp2_with fail;refine(wG b pb q cnt cap f m1 o _ ZK (HE.ac W (u.trans H)) hc P R).mono ?_;rintro e w3 ⟨g,rfl,ZS,L,ZP⟩;have C:=ae (H.trans ZP);clear ZP;have S:=ae (ZO.ac C (by omega));have hx3:A (h w)+1<A (h w3):=S.1;have ZN:=ae ZS;have ZL:=ae L;have ZM:=ae (u.trans C);clear ZS L;obtain⟨⟨v0,q0,y0⟩,⟨v1,q1,y1⟩,⟨v2,q2,y2⟩,⟨v3,q3,y3⟩,⟨v4,q4,y4⟩,⟨v5,q5,y5⟩⟩:=bl6 S.2;have i:A (h w)+1≠b:=by omega
 have MM:=ae ((((((ZN.other (A (h w)+1) 0 (ZC g.t.K) i).other (A (h w)+1) 1 (J I g.t.E) i).other (A (h w)+1) 2 (U g.t.B) i).other (A (h w)+1) 3 (ZC g.t.ask) i).other (A (h w)+1) 4 (U g.t.e) i).other (A (h w)+1) 5 (J I g.t.j) i);have OO:=ae ((((((ZM.X (A (h w)+1) 0 (ZC g.t.K) (by omega)).X (A (h w)+1) 1 (J I g.t.E) (by omega)).X (A (h w)+1) 2 (U g.t.B) (by omega)).X (A (h w)+1) 3 (ZC g.t.ask) (by omega)).X (A (h w)+1) 4 (U g.t.e) (by omega)).X (A (h w)+1) 5 (J I g.t.j) (by omega));simp only[Turn.v];go_wp2;exact bp (v:=g.t.v) (by simp[results,results147,go_sem,Turn.v,q0,q1,q2,q3,q4,q5]) rfl ⟨g,o,rfl,MM,ZL,V,X,OO⟩
theorem vD{f:Nat->Ins}{cnt i:Nat}(b:fC m H)(hL:jd i H):fh f cnt y i H=m.t:=by
 rcases H with ⟨c,x,k⟩|⟨a,nm,s,p,k,l⟩
 {exact(show m.t=⟨ZF,c,x,ZB,⟨#[]⟩,k⟩ from b).symm};{have g:l=i+1:=hL;subst g;simp only[fh,NR];rw[hU ly ];exact b.1.symm}
theorem vE (f:fC m H)(b:m.t.K=ZB):∃a nm s p k l,H=.inr (a,nm,s,p,k,l):=by
 rcases H with ⟨c,x,k⟩|⟨a,nm,s,p,k,l⟩
 {have:m.t=⟨ZF,c,x,ZB,⟨#[]⟩,k⟩:=f;rw[this] at b;simp at b};{exact⟨a,nm,s,p,k,l,rfl⟩}
def TurnBox (w:G)(g:Nat)(t:Turn):Prop:=g<A (h w)/\(ZW w (Q g 0 Y)=T (ZC t.K)/\ZW w (Q g 1 Y)=T (J I t.E)/\ZW w (Q g 2 Y)=T (U t.B)/\ZW w (Q g 3 Y)=T (ZC t.ask)/\ZW w (Q g 4 Y)=T (U t.e)/\ZW w (Q g 5 Y)=T (J I t.j))/\∀j,ZX w (Q g j Y)=ZB
theorem TurnBox.aa (Z8:TurnBox w g t)(hb:Below B w w')(b:g<B):TurnBox w' g t:=by obtain⟨h1,⟨c0,c1,c2,c3,c4,c5⟩,hz⟩:=Z8;exact⟨lj h1 hb.size,⟨(hb.cell (p:=(Q g _ Y)) b).trans c0,(hb.cell (p:=(Q g _ Y)) b).trans c1,(hb.cell (p:=(Q g _ Y)) b).trans c2,(hb.cell (p:=(Q g _ Y)) b).trans c3,(hb.cell (p:=(Q g _ Y)) b).trans c4,(hb.cell (p:=(Q g _ Y)) b).trans c5⟩,λj=>(hb.frozen (p:=(Q g j Y)) b).trans (hz j)⟩
theorem TurnBox.ac (Z8:TurnBox w g t)(f:Only b w w')(i:g≠b):TurnBox w' g t:=by obtain⟨h1,⟨c0,c1,c2,c3,c4,c5⟩,hz⟩:=Z8;exact⟨lj h1 f.size,⟨(f.cell g _ h1 i).trans c0,(f.cell g _ h1 i).trans c1,(f.cell g _ h1 i).trans c2,(f.cell g _ h1 i).trans c3,(f.cell g _ h1 i).trans c4,(f.cell g _ h1 i).trans c5⟩,λj=>(f.frozen g j h1 i).trans (hz j)⟩
theorem Cj (w:G)(t:Turn)(ty:ZI):TurnBox (ZV w (N #[ZC t.K,J I t.E,U t.B,ZC t.ask,U t.e,J I t.j] ty)) (A (h w)) t :=
 ⟨by simp,⟨by simp,by simp,by simp,by simp,by simp,by simp⟩,λj=>by simp⟩
def je (w:G)(g:Nat)(t:Turn):G:=ZT (ZT (ZT (ZT (ZT (ZT w (Q g 0 Y) (ZC t.K)) (Q g 1 Y) (J I t.E)) (Q g 2 Y) (U t.B)) (Q g 3 Y) (ZC t.ask)) (Q g 4 Y) (U t.e)) (Q g 5 Y) (J I t.j)
theorem ES{u:Turn}(t:Turn)(Z8:TurnBox w g u):TurnBox (je w g t) g t:=by obtain⟨h1,⟨c0,c1,c2,c3,c4,c5⟩,hz⟩:=Z8;refine⟨by simpa[je] using h1,⟨?_,?_,?_,?_,?_,?_⟩,λj=>by simpa[je] using hz j⟩;all_goals simp[je,go_sem,c0,c1,c2,c3,c4,c5]
theorem Ck (t:Turn):Only g w (je w g t):=cj (cj (cj (cj (cj (cj (Only.refl g w) 0 _) 1 _) 2 _) 3 _) 4 _) 5 _
theorem MAt.boxed{i:ZD}(Z8:MAt w b i m)(f:g≠b)(t:Turn):MAt (je w g t) b i m :=
 (((((Z8.other g 0 (ZC t.K) f).other g 1 (J I t.E) f).other g 2 (U t.B) f).other g 3 (ZC t.ask) f).other g 4 (U t.e) f).other g 5 (J I t.j) f
abbrev dZ (at_:Int)(sv:ZD)(st lk:Int)(b:Bool)(c:Int)(x:ByteArray)(ask:Bool)(nm:ByteArray)(f:Bool):ZD :=
 ZH #[J I at_,sv,J I st,J I lk,ZC b,J I c,U x,ZC ask,U nm,ZC f]
theorem dQ (Z8:Below B u w)(b:B<=g)(v0 v1 v2 v3 v4 v5 v6 v7 v8 v9:ZD):Below B u (ZT (ZT (ZT (ZT (ZT (ZT (ZT (ZT (ZT (ZT w (Q g 0 Y) v0) (Q g 1 Y) v1) (Q g 2 Y) v2) (Q g 3 Y) v3) (Q g 4 Y) v4) (Q g 5 Y) v5) (Q g 6 Y) v6) (Q g 7 Y) v7) (Q g 8 Y) v8) (Q g 9 Y) v9) :=
 (((((((((Z8.setCell b v0).setCell b v1).setCell b v2).setCell b v3).setCell b v4).setCell b v5).setCell b v6).setCell b v7).setCell b v8).setCell b v9
theorem fD (at_:Int)(a:Option Addr)(n cap:Nat)(st lk:Int)(f:Bool)(c0:Int)(g:ByteArray)(ask:Bool)(nm:ByteArray)(b:Bool)(c:Int)(x:ByteArray)(w:G):Calls Pg 119 #[dZ at_ (Z a n cap) st lk f c0 g ask nm b,J I c,U x] w λe w'=>e=ZG (dZ at_ (Z a n cap) st lk ZF c x ask nm b)/\Below (A (h w)) w w':=by go_enter func119,ntmps119;go_wp2;refine bp (v:=dZ at_ (Z a n cap) st lk ZF c x ask nm b) (by simp[results,results119,go_sem]) rfl ⟨rfl,(br.alloc ly _).alloc (by simp) _⟩
theorem vF (op:Nat)(w:G)(h1:1<=op)(h15:op<=15):Calls Pg 120 #[J I op] w λe w'=>e=ZG (.tuple #[J I (aO op),J I (bF op)])/\w'=w:=by
 rcases(show op=1∨op=2∨op=3∨op=4∨op=5∨op=6∨op=7∨op=8∨op=9∨op=10∨op=11∨op=12∨op=13∨op=14∨op=15 by omega) with rfl|rfl|rfl|rfl|rfl|rfl|rfl|rfl|rfl|rfl|rfl|rfl|rfl|rfl|rfl;all_goals
  go_enter func120,ntmps120;go_wp2;refine bp (v:=.tuple #[J I (aO _),J I (bF _)]) (by simp[results,results120,go_sem,aO,bF]) rfl ⟨rfl,rfl⟩
def bX (op n:Nat)(t a b:ByteArray):List ByteArray :=
 match op with
 |1=>[t]
 |2=>[b++a]
 |3=>[if n<a.size then a.extract 0 n else a]
 |4=>[if n<a.size then a.extract n a.size else ⟨#[]⟩]
 |5=>[fH a n]
 |6=>[eJ (a.toList == b.toList)]
 |7=>[a,a]
 |8=>[a,b]
 |_=>[]
theorem mB (w:G)(x:ByteArray)(g:Nat)(b:g=A (h w)):RowStr (ZV w (N #[U x] 9)) g 0 1 (λi=>[x].getD i ⟨#[]⟩):=by
 subst b
 exact⟨by simp,λi hi=>by
  obtain rfl:i=0:=by omega
  simp⟩
theorem Gg (w:G)(x y:ByteArray)(g:Nat)(b:g=A (h w)):RowStr (ZV w (N #[U x,U y] 9)) g 0 2 (λi=>[x,y].getD i ⟨#[]⟩):=by subst b;exact⟨by simp,λi hi=>by rcases(show i=0∨i=1 by omega) with rfl|rfl<;>simp⟩
theorem vG (op n:Nat)(t a b:ByteArray)(w:G)(h1:1<=op)(h8:op<=8)(m:a.size<=2000)(hb:b.size<=2000)(hn:n<=2000):Calls Pg 122 #[ZH #[J I op,U t,J I n],U a,U b] w λe w'=>∃g,e=ZG (Z (T (Q g 0 Y)) (bX op n t a b).length (bX op n t a b).length)/\RowStr w' g 0 (bX op n t a b).length (λi=>(bX op n t a b).getD i ⟨#[]⟩)/\(A (h w))<=g/\Below (A (h w)) w w':=by
 have f:=ae ((q9 w).alloc ly (N #[J I op,U t,J I n] 90));rcases(show op=1∨op=2∨op=3∨op=4∨op=5∨op=6∨op=7∨op=8 by omega) with rfl|rfl|rfl|rfl|rfl|rfl|rfl|rfl;{go_enter NP,NH;go_wp2;go_ret;exact⟨_,rfl,mB _ t _ (by simp),by simp,f.alloc (by simp) _⟩};{go_enter NP,NH;go_wp2;go_ret;exact⟨_,rfl,mB _ (b++a) _ (by simp),by simp,f.alloc (by simp) _⟩}
 ·by_cases Z8:(n:Int)<a.size
  ·have e:bX 3 n t a b=[a.extract 0 n]:=by simp[bX];omega
   rw[e];clear e;go_enter NP,NH;go_wp2;go_ret;exact⟨_,rfl,mB _ _ _ (by simp),by simp,f.alloc (by simp) _⟩
  ·have e:bX 3 n t a b=[a]:=by simp[bX];omega
   rw[e];clear e;go_enter NP,NH;go_wp2;go_ret;exact⟨_,rfl,mB _ _ _ (by simp),by simp,f.alloc (by simp) _⟩
 ·by_cases Z8:(n:Int)<a.size
  ·have e:bX 4 n t a b=[a.extract n a.size]:=by simp[bX];omega
   rw[e];clear e;go_enter NP,NH;go_wp2;go_ret;exact⟨_,rfl,mB _ _ _ (by simp),by simp,f.alloc (by simp) _⟩
  ·have e:bX 4 n t a b=[⟨#[]⟩]:=by simp[bX];omega
   rw[e];clear e;go_enter NP,NH;go_wp2;go_ret;exact⟨_,rfl,mB _ _ _ (by simp),by simp,f.alloc (by simp) _⟩
 {go_enter NP,NH;go_wp2_with fail;refine(vr a n _ m hn).mono ?_;rintro e o ⟨rfl,j⟩;have l:=ae (f.trans (j.mono (by simp)));clear j;go_wp2;go_ret;exact⟨_,rfl,mB _ (fH a n) _ rfl,l.size,l.alloc l.size _⟩};{go_enter NP,NH;go_wp2_with fail;refine(pz _ _).mono ?_;rintro e o ⟨rfl,rfl⟩;go_wp2;go_ret;exact⟨_,rfl,mB _ (eJ (a.toList == b.toList)) _ (by simp),by simp,f.alloc (by simp) _⟩};{go_enter NP,NH;go_wp2;go_ret;exact⟨_,rfl,Gg _ a a _ (by simp),by simp,f.alloc (by simp) _⟩};{go_enter NP,NH;go_wp2;go_ret;exact⟨_,rfl,Gg _ a b _ (by simp),by simp,f.alloc (by simp) _⟩}
def Ten (w:G)(g:Nat)(v0 v1 v2 v3 v4 v5 v6 v7 v8 v9:ZD):Prop:=g<A (h w)/\(ZW w (Q g 0 Y)=T v0/\ZX w (Q g 0 Y)=ZB)/\(ZW w (Q g 1 Y)=T v1/\ZX w (Q g 1 Y)=ZB)/\(ZW w (Q g 2 Y)=T v2/\ZX w (Q g 2 Y)=ZB)/\(ZW w (Q g 3 Y)=T v3/\ZX w (Q g 3 Y)=ZB)/\(ZW w (Q g 4 Y)=T v4/\ZX w (Q g 4 Y)=ZB)/\(ZW w (Q g 5 Y)=T v5/\ZX w (Q g 5 Y)=ZB)/\(ZW w (Q g 6 Y)=T v6/\ZX w (Q g 6 Y)=ZB)/\(ZW w (Q g 7 Y)=T v7/\ZX w (Q g 7 Y)=ZB)/\(ZW w (Q g 8 Y)=T v8/\ZX w (Q g 8 Y)=ZB)/\(ZW w (Q g 9 Y)=T v9/\ZX w (Q g 9 Y)=ZB)
section
variable {w w':G}{g:Nat}{v0 v1 v2 v3 v4 v5 v6 v7 v8 v9:ZD}
theorem Ten.of_block (Z8:Ten w g v0 v1 v2 v3 v4 v5 v6 v7 v8 v9)(hz:A (h w)<=A (h w'))(hb:w'.heap[g]?=w.heap[g]?):Ten w' g v0 v1 v2 v3 v4 v5 v6 v7 v8 v9:=by have b:∀o,ZW w' (Q g o Y)=ZW w (Q g o Y):=λo=>cq (a:=(Q g o Y)) hb;have f:∀o,ZX w' (Q g o Y)=ZX w (Q g o Y):=λo=>LF (a:=(Q g o Y)) hb;unfold Ten at Z8 ⊢;simp only[b,f];exact⟨lj Z8.1 hz,Z8.2⟩
theorem Ten.aa (Z8:Ten w g v0 v1 v2 v3 v4 v5 v6 v7 v8 v9)(hb:Below B w w')(b:g<B):Ten w' g v0 v1 v2 v3 v4 v5 v6 v7 v8 v9:=Z8.of_block hb.size (hb.block g b)
theorem Ten.grown{row:Option Nat}(Z8:Ten w g v0 v1 v2 v3 v4 v5 v6 v7 v8 v9)(hb:w.grownBy w' row)(b:T g≠row):Ten w' g v0 v1 v2 v3 v4 v5 v6 v7 v8 v9:=Z8.of_block hb.size (hb.block g Z8.1 b)
theorem Ten.al (Z8:Ten w g v0 v1 v2 v3 v4 v5 v6 v7 v8 v9)(o:Obj):Ten (w.alloc o) g v0 v1 v2 v3 v4 v5 v6 v7 v8 v9:=Z8.aa ((q9 w).alloc ly o) Z8.1
theorem Ten.other (Z8:Ten w g v0 v1 v2 v3 v4 v5 v6 v7 v8 v9)(p:Addr)(u:ZD)(b:p.block≠g):Ten (w.setCell p u) g v0 v1 v2 v3 v4 v5 v6 v7 v8 v9:=Z8.of_block (by simp) (qh w p u g (λe=>b e.symm))
end
theorem kw (w:G)(v0 v1 v2 v3 v4 v5 v6 v7 v8 v9:ZD)(t:ZI)(g:Nat)(b:g=A (h w)):Ten (ZV w (N #[v0,v1,v2,v3,v4,v5,v6,v7,v8,v9] t)) g v0 v1 v2 v3 v4 v5 v6 v7 v8 v9:=by subst b;simp[Ten]
section
variable {w:G}{g:Nat}{v0 v1 v2 v3 v4 v5 v6 v7 v8 v9:ZD}
theorem Ten.sets (Z8:Ten w g v0 v1 v2 v3 v4 v5 v6 v7 v8 v9)(u:ZD):Ten (ZT w (Q g 0 Y) u) g u v1 v2 v3 v4 v5 v6 v7 v8 v9/\Ten (ZT w (Q g 1 Y) u) g v0 u v2 v3 v4 v5 v6 v7 v8 v9/\Ten (ZT w (Q g 2 Y) u) g v0 v1 u v3 v4 v5 v6 v7 v8 v9/\Ten (ZT w (Q g 3 Y) u) g v0 v1 v2 u v4 v5 v6 v7 v8 v9/\Ten (ZT w (Q g 4 Y) u) g v0 v1 v2 v3 u v5 v6 v7 v8 v9/\Ten (ZT w (Q g 5 Y) u) g v0 v1 v2 v3 v4 u v6 v7 v8 v9/\Ten (ZT w (Q g 6 Y) u) g v0 v1 v2 v3 v4 v5 u v7 v8 v9/\Ten (ZT w (Q g 7 Y) u) g v0 v1 v2 v3 v4 v5 v6 u v8 v9/\Ten (ZT w (Q g 8 Y) u) g v0 v1 v2 v3 v4 v5 v6 v7 u v9/\Ten (ZT w (Q g 9 Y) u) g v0 v1 v2 v3 v4 v5 v6 v7 v8 u:=by have o:∀i j:Nat,i≠j->ZW (ZT w (Q g i Y) u) (Q g j Y)=ZW w (Q g j Y):=λi j hij=>sq _ _ _ _ (by simp);have s:∀i v,ZW w (Q g i Y)=T v->ZW (ZT w (Q g i Y) u) (Q g i Y)=T u:=λi v e=>AT _ _ _ (by rw[e];rfl);obtain⟨ZZ,⟨x,D⟩,⟨b,H⟩,⟨l,ZP⟩,⟨q,B⟩,⟨f,ZQ⟩,⟨r,ZS⟩,⟨t,y⟩,⟨p,z⟩,⟨m,C⟩,n,E⟩:=Z8;simp[Ten,o,ZZ,s _ _ x,s _ _ b,s _ _ l,s _ _ q,s _ _ f,s _ _ r,s _ _ t,s _ _ p,s _ _ m,s _ _ n,x,b,l,q,f,r,t,p,m,n,D,H,ZP,B,ZQ,ZS,y,z,C,E]
theorem Ten.set0 (Z8:Ten w g v0 v1 v2 v3 v4 v5 v6 v7 v8 v9)(u:ZD):Ten (ZT w (Q g 0 Y) u) g u v1 v2 v3 v4 v5 v6 v7 v8 v9:=(Z8.sets u).1
theorem Ten.set1 (Z8:Ten w g v0 v1 v2 v3 v4 v5 v6 v7 v8 v9)(u:ZD):Ten (ZT w (Q g 1 Y) u) g v0 u v2 v3 v4 v5 v6 v7 v8 v9:=(Z8.sets u).2.1
theorem Ten.set2 (Z8:Ten w g v0 v1 v2 v3 v4 v5 v6 v7 v8 v9)(u:ZD):Ten (ZT w (Q g 2 Y) u) g v0 v1 u v3 v4 v5 v6 v7 v8 v9:=(Z8.sets u).2.2.1
theorem Ten.set3 (Z8:Ten w g v0 v1 v2 v3 v4 v5 v6 v7 v8 v9)(u:ZD):Ten (ZT w (Q g 3 Y) u) g v0 v1 v2 u v4 v5 v6 v7 v8 v9:=(Z8.sets u).2.2.2.1
theorem Ten.set4 (Z8:Ten w g v0 v1 v2 v3 v4 v5 v6 v7 v8 v9)(u:ZD):Ten (ZT w (Q g 4 Y) u) g v0 v1 v2 v3 u v5 v6 v7 v8 v9:=(Z8.sets u).2.2.2.2.1
theorem Ten.set5 (Z8:Ten w g v0 v1 v2 v3 v4 v5 v6 v7 v8 v9)(u:ZD):Ten (ZT w (Q g 5 Y) u) g v0 v1 v2 v3 v4 u v6 v7 v8 v9:=(Z8.sets u).2.2.2.2.2.1
theorem Ten.set6 (Z8:Ten w g v0 v1 v2 v3 v4 v5 v6 v7 v8 v9)(u:ZD):Ten (ZT w (Q g 6 Y) u) g v0 v1 v2 v3 v4 v5 u v7 v8 v9:=(Z8.sets u).2.2.2.2.2.2.1
theorem Ten.set7 (Z8:Ten w g v0 v1 v2 v3 v4 v5 v6 v7 v8 v9)(u:ZD):Ten (ZT w (Q g 7 Y) u) g v0 v1 v2 v3 v4 v5 v6 u v8 v9:=(Z8.sets u).2.2.2.2.2.2.2.1
theorem Ten.set8 (Z8:Ten w g v0 v1 v2 v3 v4 v5 v6 v7 v8 v9)(u:ZD):Ten (ZT w (Q g 8 Y) u) g v0 v1 v2 v3 v4 v5 v6 v7 u v9:=(Z8.sets u).2.2.2.2.2.2.2.2.1
theorem Ten.set9 (Z8:Ten w g v0 v1 v2 v3 v4 v5 v6 v7 v8 v9)(u:ZD):Ten (ZT w (Q g 9 Y) u) g v0 v1 v2 v3 v4 v5 v6 v7 v8 u:=(Z8.sets u).2.2.2.2.2.2.2.2.2
end
theorem Gh (w:G)(b:Array ZD)(ty:ZI)(R ZJ:Obj)(j:Nat)(v:ZD)(f:b[j]?=T v):(((w.alloc (N b ty)).alloc R).alloc ZJ).cell? (Q (A (h w)) j Y)=T v:=by rw[(((cM (w.alloc (N b ty)).heap.size _).alloc ly R).alloc (by simp) ZJ).cell (p:=(Q (A (h w)) j Y)) (by simp)];simp[f]
abbrev SO:=(Nat × Nat × Nat × List ByteArray) ⊕ (Int × ByteArray × Nat) ⊕ (Bool × ByteArray × Nat)
abbrev strs (s:List ByteArray):List ZD:=s.reverse.map Value.string
def SoIs (w:G)(base:Nat)(v:ZD):SO->Prop
 |.inl (p,st,l,s)=>∃a cap,v=dZ p (Z a (ZU s) cap) st l ZB 0 ⟨#[]⟩ ZB ⟨#[]⟩ ZB/\ZY w base 9 1 (Z a (ZU s) cap) (ZU s) (strs s)
 |.inr (.inl (c,x,st))=>∃(at_:Int) (a:Option Addr) (n cap:Nat) (lk:Int),v=dZ at_ (Z a n cap) st lk ZF c x ZB ⟨#[]⟩ ZB
 |.inr (.inr (ask,nm,st))=>∃(at_:Int) (a:Option Addr) (n cap:Nat) (lk:Int),v=dZ at_ (Z a n cap) st lk ZB 0 ⟨#[]⟩ ask nm ZF
theorem SoIs.kept{v:ZD}{r:SO}(Z8:SoIs w base v r)(hb:Below (A (h w)) w w')(g:b<=base):SoIs w' b v r:=by
 rcases r with ⟨p,st,l,s⟩|⟨c,x,st⟩|⟨ask,nm,st⟩
 {obtain⟨a,cap,e,f⟩:=Z8;exact⟨a,cap,e,aA (own_below f hb ly) g⟩};{exact Z8};{exact Z8}
theorem zT{k:Nat}{s0:ByteArray}{i:Int}{b:List ZD}(Z8:ZY w base e 1 (Z (T (Q g 0 Y)) n cap) n b)(j:b[0]?=T (U s0))(f:ZW w (Q k 0 Y)=T (J I i)):k≠g:=by rintro rfl;have:=Z8.cells (g:=k) rfl 0 _ j;simp[Addr.add] at this;rw[f] at this;simp at this
theorem gD (x:ByteArray)(s:List ByteArray):strs (x::s)=strs s++[U x]:=by simp[strs]
theorem wI:∃s0,(strs s++[Value.string x])[0]?=T (U s0):=by
 rw[<-gD];simp only[strs,HU,MP];have Z8:0<(x::s).reverse.length:=by simp
 exact⟨_,_,gq Z8,rfl⟩
theorem dS{b:List ZD}(Z8:ZY w base e 1 (Z (T (Q g 0 Y)) n cap) n b){k:Nat}(f:k≠g)(u:ZD)(j:Nat):(ZT w (Q k j Y) u).ownsRow base e 1 (Z (T (Q g 0 Y)) n cap) n b :=
 SE Z8 (by simp[Value.ownBlock];exact λe=>f e.symm) u
theorem Cl{f:List ZD}(Z8:ZY w base e 1 (Z (T (Q g 0 Y)) n cap) n f){k:Nat}(b:k≠g)(v0 v1 v2 v3 v4 v5 v6 v7 v8 v9:ZD):World.ownsRow (ZT (ZT (ZT (ZT (ZT (ZT (ZT (ZT (ZT (ZT w (Q k 0 Y) v0) (Q k 1 Y) v1) (Q k 2 Y) v2) (Q k 3 Y) v3) (Q k 4 Y) v4) (Q k 5 Y) v5) (Q k 6 Y) v6) (Q k 7 Y) v7) (Q k 8 Y) v8) (Q k 9 Y) v9) base e 1 (Z (T (Q g 0 Y)) n cap) n f :=
 dS (dS (dS (dS (dS (dS (dS (dS (dS (dS Z8 b v0 0) b v1 1) b v2 2) b v3 3) b v4 4) b v5 5) b v6 6) b v7 7) b v8 8) b v9 9
def jI (y:Nat->ay)(n:Nat)(a:Bool)(nm:ByteArray)(s:List ByteArray)(p st l:Nat):SO :=
 if n<=l then .inr (.inr (a,nm,st)) else if a=ZB then .inl (p,st,(l+1),(eJ (y l).has::s)) else if (y l).has=ZB then .inr (.inl (4,nm,st))
 else if (y l).E=0 then .inl (p,st,(l+1),((y l).B::s)) else .inr (.inl (5,nm,st))
def jr (y:Nat->ay)(n op:Nat)(pl nm:ByteArray)(s:List ByteArray)(p st l:Nat):SO :=
 if av nm=ZB then .inr (.inl (2,pl,st)) else if l=200 then .inr (.inl (3,⟨#[]⟩,st)) else jI y n ((op:Int) == 12) nm s p st l
theorem zU{pl nm:ByteArray}{st:Nat}{b:SO}(Z8:b=jr y n op pl nm s p st l)(j:op=12∨op=13):(av nm=ZB/\b=.inr (.inl (2,pl,st)))∨(av nm=ZF/\((l:Int) == 200)=ZF/\b=.inr (.inl (3,⟨#[]⟩,st))) ∨
  (av nm=ZF/\((l:Int) == 200)=ZB/\((n<=l/\b=.inr (.inr (((op:Int) == 12),nm,st)))∨(l<n/\((op=13/\b=.inl (p,st,(l+1),(eJ (y l).has::s)))∨(op=12/\(((y l).has=ZB/\b=.inr (.inl (4,nm,st)))∨((y l).has=ZF/\(((y l).E=0/\b=.inl (p,st,(l+1),((y l).B::s)))∨(((y l).E == 0)=ZB/\b=.inr (.inl (5,nm,st))))))))))):=by
 unfold jr jI at Z8;by_cases h1:av nm=ZB;{rw[hU h1] at Z8;exact .inl ⟨h1,Z8⟩};rw[eT h1] at Z8;have h1:av nm=ZF:=by simpa using h1
 by_cases h2:l=200;{rw[hU h2] at Z8;exact .inr (.inl ⟨h1,by simp;omega,Z8⟩)};rw[eT h2] at Z8;refine .inr (.inr ⟨h1,by simp;omega,?_⟩);by_cases i:n<=l;{rw[hU i] at Z8;exact .inl ⟨i,Z8⟩};rw[eT i] at Z8;refine .inr ⟨by omega,?_⟩;rcases j with rfl|rfl;{rw[eT (by simp)] at Z8;by_cases f:(y l).has=ZB;{rw[hU f] at Z8;exact .inr ⟨rfl,.inl ⟨f,Z8⟩⟩};rw[eT f] at Z8;by_cases g:(y l).E=0;{rw[hU g] at Z8;exact .inr ⟨rfl,.inr ⟨by simpa using f,.inl ⟨g,Z8⟩⟩⟩};rw[eT g] at Z8;exact .inr ⟨rfl,.inr ⟨by simpa using f,.inr ⟨by simpa using g,Z8⟩⟩⟩};{rw[hU (by simp)] at Z8;exact .inl ⟨rfl,Z8⟩}
structure LkS (w:G)(op:Int)(base:Nat)(a:Option Addr)(cap:Nat)(s:List ByteArray)(p st lk:Int)(V:G):Prop where
 run:Ten V (A (h w)+1) (J I p) (Z a (ZU s) cap) (J I st) (J I lk) (ZC ZB) (J I 0) (U ⟨#[]⟩) (ZC ZB) (U ⟨#[]⟩) (ZC ZB)
 zer:Ten V (A (h w)+1+1) (J I 0) (Z Y 0 0) (J I 0) (J I 0) (ZC ZB) (J I 0) (U ⟨#[]⟩) (ZC ZB) (U ⟨#[]⟩) (ZC ZB)
 bl:Below (A (h w)) w V
 y:ZY V base 9 1 (Z a (ZU s) cap) (ZU s) (strs s)
 ne:∀k,A (h w)<=k->Value.ownBlock (Z a (ZU s) cap)≠T k
 arg:ZW V (Q (A (h w)) 0 Y)=T (J I op)
section
variable {w V ZL:G}{base cap:Nat}{a:Option Addr}{s:List ByteArray}{op p st lk:Int}
theorem LkS.aa (Z8:LkS w op base a cap s p st lk V)(b:Below (A (h V)) V ZL):LkS w op base a cap s p st lk ZL :=
 ⟨Z8.run.aa b Z8.run.1,Z8.zer.aa b Z8.zer.1,Z8.bl.trans (b.mono Z8.bl.size),own_below Z8.y b ly,Z8.ne,(b.cell (p:=(Q (A (h w)) 0 Y)) (by have:=Z8.run.1;show (A (h w))<_;omega)).trans Z8.arg⟩
theorem LkS.next (Z8:LkS w op base a cap s p st lk V)(q:Int):LkS w op base a cap s p st q (ZT V (Q (A (h w)+1) 3 Y) (J I q)) :=
 ⟨Z8.run.set3 _,Z8.zer.other _ _ (by simp),Z8.bl.setCell (p:=(Q (A (h w)+1) 3 Y)) (by simp) _,SE Z8.y (a:=(Q (A (h w)+1) 3 Y)) (Z8.ne _ (by simp)) _,Z8.ne,(sq _ _ _ _ (by simp)).trans Z8.arg⟩
theorem LkS.al (Z8:LkS w op base a cap s p st lk V)(o:Obj):LkS w op base a cap s p st lk (V.alloc o):=Z8.aa (br.alloc ly o)
theorem LkS.drew (Z8:LkS w op base a cap s p st lk V):LkS w op base a cap s p st lk V.drew:=Z8.aa br.drew
theorem LkS.grown (Z8:LkS w op base a cap s p st lk V)(b:V.grownBy ZL (Value.slice a (ZU s) cap).ownBlock)(hb:base<=A (h w)):Ten ZL (A (h w)+1) (J I p) (Z a (ZU s) cap) (J I st) (J I lk) (ZC ZB) (J I 0) (U ⟨#[]⟩) (ZC ZB) (U ⟨#[]⟩) (ZC ZB)/\Ten ZL (A (h w)+1+1) (J I 0) (Z Y 0 0) (J I 0) (J I 0) (ZC ZB) (J I 0) (U ⟨#[]⟩) (ZC ZB) (U ⟨#[]⟩) (ZC ZB)/\Below base w ZL :=
 ⟨Z8.run.grown b λe=>Z8.ne _ (by omega) e.symm,Z8.zer.grown b λe=>Z8.ne _ (by omega) e.symm,bg (Z8.bl.mono hb) b (AD hb Z8.bl.size) λk e=>(Z8.y.lt k e).1⟩
end
theorem yo (op:Nat)(t:ByteArray)(k:Int)(p st l:Nat)(a:Option Addr)(cap:Nat)(s:List ByteArray)(nm pl:ByteArray)(b2 o2 n X base:Nat)(y:Nat->ay)(w:G)
  (hY:RowReply w b2 o2 n y) (hO:ZY w base 9 1 (Z a (ZU s) cap) (ZU s) (strs s)) (hb:base<=A (h w)) (la:op=12∨op=13) (hl:l<=200) (hs:ZU s<=50) :
  Calls Pg 121 #[ZH #[J I op,U t,J I k],dZ p (Z a (ZU s) cap) st l ZB 0 ⟨#[]⟩ ZB ⟨#[]⟩ ZB,U nm,U pl,Z (T (Q b2 o2 Y)) n X] w λe w'=>∃v,e=ZG v/\SoIs w' base v (jr y n op pl nm s p st l)/\Below base w w':=by
 obtain⟨so,ZZ⟩:∃so,so=jr y n op pl nm s p st l:=⟨_,rfl⟩
 rw[<-ZZ];have HQ:=ae (zU ZZ la);have HY:=ae hY;have P:=ae ((((q9 w).alloc ly (N #[J I op,U t,J I k] 90)).alloc (by simp) (N #[J I p,Z a (ZU s) cap,J I st,J I l,ZC ZB,J I 0,U ⟨#[]⟩,ZC ZB,U ⟨#[]⟩,ZC ZB] 155)).alloc (by simp<;>omega) (N #[J I 0,Z Y 0 0,J I 0,J I 0,ZC ZB,J I 0,U ⟨#[]⟩,ZC ZB,U ⟨#[]⟩,ZC ZB] 155));have C:=ae (LkS.mk (p:=p) (st:=st) (lk:=l) ((kw (ZV w (N #[J I op,U t,J I k] 90)) _ _ _ _ _ _ _ _ _ _ 155 (A (h w)+1) (by simp)).al _) (kw _ _ _ _ _ _ _ _ _ _ _ 155 (A (h w)+1+1) (by simp)) P.out (own_below hO P ly) (λk hk e=>by have:=(hO.lt k e).2;omega) (Gh w #[J I op,U t,J I k] 90 (N #[J I p,Z a (ZU s) cap,J I st,J I l,ZC ZB,J I 0,U ⟨#[]⟩,ZC ZB,U ⟨#[]⟩,ZC ZB] 155) (N #[J I 0,Z Y 0 0,J I 0,J I 0,ZC ZB,J I 0,U ⟨#[]⟩,ZC ZB,U ⟨#[]⟩,ZC ZB] 155) 0 (J I op) rfl));clear ZZ hY hO P;go_enter func121,ntmps121;go_wp2_with fail;generalize World.alloc (World.alloc (World.alloc w _) _) _=W0 at C ⊢;refine(cV nm _).mono ?_;rintro e g ⟨rfl,D⟩;replace C:=ae (C.aa D);have hz1:=C.zer.1;have i0:=C.arg;clear D;have R1:=ae C.run;obtain⟨B,⟨c0,f0⟩,⟨c1,f1⟩,⟨c2,f2⟩,⟨c3,M⟩,⟨c4,f4⟩,⟨c5,f5⟩,⟨c6,ZM⟩,⟨R,S⟩,⟨c8,f8⟩,O,f9⟩:=R1.out;rcases HQ.out with ⟨h1,rfl⟩|⟨h1,h2,rfl⟩|⟨h1,h2,⟨h3,rfl⟩|⟨h3,Z8⟩⟩
 all_goals
  rw[h1];clear HQ
 case' inr.inr.inl =>
  have ZE:=ae (((C.zer.other (Q (A (h w)+1) 9 Y) (ZC ZF) (by simp)).other (Q (A (h w)+1) 7 Y) (ZC ((op:Int) == 12)) (by simp)).other (Q (A (h w)+1) 8 Y) (U nm) (by simp));have B2:=ae (((C.bl.setCell (p:=(Q (A (h w)+1) 9 Y)) (by simp) (ZC ZF)).setCell (p:=(Q (A (h w)+1) 7 Y)) (by simp) (ZC ((op:Int) == 12))).setCell (p:=(Q (A (h w)+1) 8 Y)) (by simp) (U nm));obtain⟨z,⟨z0,y0⟩,⟨z1,y1⟩,⟨z2,y2⟩,⟨z3,ZK⟩,⟨j,ZN⟩,⟨q,y5⟩,⟨m,ZL⟩,⟨r,ZO⟩,⟨i,y8⟩,o,V⟩:=ZE.out;have hw:(n:Int)<=l:=by omega
  go_wp2;exact bp (v:=dZ p (Z a (ZU s) cap) st l ZB 0 ⟨#[]⟩ ((op:Int) == 12) nm ZF) (by simp[results,PU,go_sem,z0,z1,z2,z3,j,q,m,r,i,o]) rfl ⟨_,rfl,⟨_,_,_,_,_,rfl⟩,dQ (B2.mono hb) (by omega) _ _ _ _ _ _ _ _ _ _⟩
 case' inr.inr.inr =>
  obtain⟨d0,d1,d2⟩:=(HY.aa C.bl ly).2 l h3;have hln:(l:Int)<n:=by omega
  have hz0:A (h w)<A (h g):=by omega
  have hz01:A (h w)+1<A (h g):=by omega
  replace C:=ae ((C.next ((l:Int)+1)).al (N #[ZC (y l).has,J I (y l).E,U (y l).B] 125));have g0:=jT (ZT g (Q (A (h w)+1) 3 Y) (J I ((l:Int)+1))) #[ZC (y l).has,J I (y l).E,U (y l).B] 125 (A (h g)) 0 (ZC (y l).has) (by simp) rfl;have g1:=jT (ZT g (Q (A (h w)+1) 3 Y) (J I ((l:Int)+1))) #[ZC (y l).has,J I (y l).E,U (y l).B] 125 (A (h g)) 1 (J I (y l).E) (by simp) rfl;have g2:=jT (ZT g (Q (A (h w)+1) 3 Y) (J I ((l:Int)+1))) #[ZC (y l).has,J I (y l).E,U (y l).B] 125 (A (h g)) 2 (U (y l).B) (by simp) rfl;have ld:A (h g)<A (h (ZV (ZT g (Q (A (h w)+1) 3 Y) (J I ((l:Int)+1))) (N #[ZC (y l).has,J I (y l).E,U (y l).B] 125))):=by simp
  go_upto_region 12 with fail;clear B c0 f0 c1 f1 c2 f2 c3 M c4 f4 c5 f5 c6 ZM R S c8 f8 O f9 R1 d0 d1 d2 i0;generalize World.alloc (World.setCell g _ _) _=W at C g0 g1 g2 ld ⊢;have i0:=C.arg;have hbW:base<=A (h W):=AD hb C.bl.size;obtain⟨ZQ,hi,L,ZP,H⟩:=KQ gH;obtain⟨B,⟨c0,f0⟩,⟨c1,f1⟩,⟨c2,f2⟩,⟨c3,M⟩,⟨c4,f4⟩,⟨c5,f5⟩,⟨c6,ZM⟩,⟨R,S⟩,⟨c8,f8⟩,O,f9⟩:=C.run;rcases Z8 with ⟨rfl,rfl⟩|⟨rfl,⟨ZJ,rfl⟩|⟨ZJ,⟨h5,rfl⟩|⟨h5,rfl⟩⟩⟩
  case' inr.inl|inr.inr.inr=>rw[ZJ] at g0
  case' inr.inr.inl =>rw[ZJ] at g0;rw[h5] at g1;go_wp2_with (at_builtin;refine DD _ rfl (.tmp 70) (.tmp 73) 45 rfl base 9 ZQ (U ⟨#[]⟩) 1 16 LZ hi L ZP H rfl (by decide) (Z a (ZU s) cap) (ZU s) (strs s) (by simp[Act.eval]) (by first|exact C.y.alloc _|exact C.y.drew.alloc _|exact C.y.drew.drew.alloc _) (Q (A (h W)) 0 Y) 1 1 [U (y l).B] (by simp[Act.eval]) rfl (by first|exact fs W _ _|exact fs W.drew _ _|exact fs W.drew.drew _ _) (by simp[Value.oneCell']) (by unfold maxLen;omega) (by omega) (by simp<;>omega) ?_;intro v' w2 b f u;obtain⟨gg,x,rfl⟩:=jk b (by omega);have ZS:=ae (LkS.grown (by first|exact C.al _|exact C.drew.al _|exact C.drew.drew.al _) f hb);obtain⟨bt,⟨k0,m0⟩,⟨k1,m1⟩,⟨k2,m2⟩,⟨k3,m3⟩,⟨k4,m4⟩,⟨k5,m5⟩,⟨k6,m6⟩,⟨k7,m7⟩,⟨k8,m8⟩,k9,m9⟩:=ZS.1;obtain⟨z,⟨z0,y0⟩,⟨z1,y1⟩,⟨z2,y2⟩,⟨z3,ZK⟩,⟨j,ZN⟩,⟨q,y5⟩,⟨m,ZL⟩,⟨r,ZO⟩,⟨i,y8⟩,o,V⟩:=ZS.2.1)
  case' inl =>go_wp2_with fail;go_region_law (first|(refine dr rfl (.tmp 49) (.tmp 53) 45 rfl base 9 ZQ (U ⟨#[]⟩) 1 16 LZ hi L ZP H rfl (by decide) (Z a (ZU s) cap) (ZU s) (strs s) (by simp[Act.eval]) (by first|exact C.y.alloc _|exact C.y.drew.alloc _|exact C.y.drew.drew.alloc _) (Q (A (h W)) 0 Y) 1 1 [U (eJ (y l).has)] (by simp[Act.eval]) rfl (by first|exact fs W _ _|exact fs W.drew _ _|exact fs W.drew.drew _ _) (by simp[Value.oneCell']) (by unfold maxLen;omega) (by omega) (by simp<;>omega) ?_;intro v' w2 b f u;obtain⟨gg,x,rfl⟩:=jk b (by omega);have ZS:=ae (LkS.grown (by first|exact C.al _|exact C.drew.al _|exact C.drew.drew.al _) f hb);obtain⟨bt,⟨k0,m0⟩,⟨k1,m1⟩,⟨k2,m2⟩,⟨k3,m3⟩,⟨k4,m4⟩,⟨k5,m5⟩,⟨k6,m6⟩,⟨k7,m7⟩,⟨k8,m8⟩,k9,m9⟩:=ZS.1;obtain⟨z,⟨z0,y0⟩,⟨z1,y1⟩,⟨z2,y2⟩,⟨z3,ZK⟩,⟨j,ZN⟩,⟨q,y5⟩,⟨m,ZL⟩,⟨r,ZO⟩,⟨i,y8⟩,o,V⟩:=ZS.2.1)|(go_simp;go_at_call 141;refine(pz _ _).mono ?_;rintro e w9 ⟨rfl,ex⟩;subst ex))
  all_goals (try (have K:=zT b (wI (s:=s)).choose_spec ZS.1.2.1.1;have aq:=zT b (wI (s:=s)).choose_spec ZS.2.1.2.1.1;have fd:=ae (dS b K (Z (T (Q gg 0 Y)) (ZU s+1) x) 1);have B4:=ae (ZS.2.2.setCell (p:=(Q (A (h w)+1) 1 Y)) (by simp;omega) (Z (T (Q gg 0 Y)) (ZU s+1) x));clear b f u K;(try go_wp2);refine bp (v:=dZ p (Z (T (Q gg 0 Y)) (ZU s+1) x) st ((l:Int)+1) ZB 0 ⟨#[]⟩ ZB ⟨#[]⟩ ZB) (by simp[results,PU,go_sem,z0,z1,z2,z3,j,q,m,r,i,o]) rfl ⟨_,rfl,⟨T (Q gg 0 Y),x,by simp,?_⟩,dQ B4.out (by omega) _ _ _ _ _ _ _ _ _ _⟩;rw[gD];exact Cl fd aq _ _ _ _ _ _ _ _ _ _))
 all_goals
  go_wp2_with fail;refine(fD _ _ _ _ _ _ _ _ _ _ _ _ _ _ _).mono ?_;rintro e w2 ⟨rfl,E⟩;replace C:=ae (C.aa E);clear E B c0 f0 c1 f1 c2 f2 c3 M c4 f4 c5 f5 c6 ZM R S c8 f8 O f9;obtain⟨z,⟨z0,y0⟩,⟨z1,y1⟩,⟨z2,y2⟩,⟨z3,ZK⟩,⟨j,ZN⟩,⟨q,y5⟩,⟨m,ZL⟩,⟨r,ZO⟩,⟨i,y8⟩,o,V⟩:=C.zer;go_wp2;first
   |exact bp (v:=dZ p (Z a (ZU s) cap) st l ZF 3 ⟨#[]⟩ ZB ⟨#[]⟩ ZB) (by simp[results,PU,go_sem,z0,z1,z2,z3,j,q,m,r,i,o]) rfl ⟨_,rfl,⟨_,_,_,_,_,rfl⟩,dQ (C.bl.mono hb) (by omega) _ _ _ _ _ _ _ _ _ _⟩
   |exact bp (v:=dZ p (Z a (ZU s) cap) st l ZF 2 pl ZB ⟨#[]⟩ ZB) (by simp[results,PU,go_sem,z0,z1,z2,z3,j,q,m,r,i,o]) rfl ⟨_,rfl,⟨_,_,_,_,_,rfl⟩,dQ (C.bl.mono hb) (by omega) _ _ _ _ _ _ _ _ _ _⟩
   |exact bp (v:=dZ p (Z a (ZU s) cap) st ((l:Int)+1) ZF 4 nm ZB ⟨#[]⟩ ZB) (by simp[results,PU,go_sem,z0,z1,z2,z3,j,q,m,r,i,o]) rfl ⟨_,rfl,⟨_,_,_,_,_,rfl⟩,dQ (C.bl.mono hb) (by omega) _ _ _ _ _ _ _ _ _ _⟩
   |exact bp (v:=dZ p (Z a (ZU s) cap) st ((l:Int)+1) ZF 5 nm ZB ⟨#[]⟩ ZB) (by simp[results,PU,go_sem,z0,z1,z2,z3,j,q,m,r,i,o]) rfl ⟨_,rfl,⟨_,_,_,_,_,rfl⟩,dQ (C.bl.mono hb) (by omega) _ _ _ _ _ _ _ _ _ _⟩
theorem add0 (g j:Nat):((Q g 0 Y):Addr).add j=(Q g j Y):=by unfold Addr.add;split<;>simp_all
theorem EU (Z8:ZY w base e 1 (Z (T (Q g 0 Y)) (ZU r+1) cap) (ZU r+1) (strs (x::r))):ZW w (Q g (ZU r) Y)=T (U x):=by have:=Z8.cells (g:=g) rfl (ZU r) (U x) (by rw[gD,KL (by simp)];simp);rwa[add0] at this
theorem EV{z:ByteArray}(Z8:ZY w base e 1 (Z (T (Q g 0 Y)) (ZU r+2) cap) (ZU r+2) (strs (x::z::r))):ZW w (Q g (ZU r+1) Y)=T (U x)/\ZW w (Q g (ZU r) Y)=T (U z):=by have h1:=Z8.cells (g:=g) rfl (ZU r+1) (U x) (by rw[gD,KL (by simp)];simp);have h2:=Z8.cells (g:=g) rfl (ZU r) (U z) (by rw[gD,KO (by simp),gD,KL (by simp)];simp);rw[add0] at h1 h2;exact⟨h1,h2⟩
theorem EW{b:List ZD}(Z8:ZY w base e 1 (Z (T (Q g 0 Y)) n cap) n b):n<=cap:=by
 rcases Z8.2 with ⟨i,_⟩|⟨g,c,cur,f,_,_,hn,_⟩
 {simp at i};{simp at f;omega}
theorem EX{xs:List ZD}(Z8:ZY w base e 1 (Z (T (Q g 0 Y)) n cap) n (strs r++xs)):∀j u,(strs r)[j]?=T u->w.cell? (((Q g 0 Y):Addr).add j)=T u:=λj u b =>Z8.cells (g:=g) rfl j u (by rw[KO (by obtain⟨f,_⟩:=j2.1 b;exact f)];exact b)
theorem rq{v:ZD}{f:List ZD}(Z8:ZY w base e 1 v n f)(b:v≠.slice Y 0 0):∃g cap,v=Z (T (Q g 0 Y)) n cap/\base<=g:=by
 rcases Z8.2 with ⟨j,_⟩|⟨g,cap,cur,b,i,_⟩
 {exact absurd j b};{exact⟨g,cap,b,i⟩}
theorem Cm (r:List ByteArray):∀u∈strs r,u.oneCell'=ZF:=by intro u b;obtain⟨x,_,rfl⟩:=LA.1 b;rfl
theorem SoIs.form{v:ZD}{r:SO}(Z8:SoIs w base v r):∃(at_:Int) (a:Option Addr) (n cap:Nat) (st lk:Int) (f:Bool) (c:Int) (x:ByteArray) (ask:Bool) (nm:ByteArray) (b:Bool),v=dZ at_ (Z a n cap) st lk f c x ask nm b:=by
 rcases r with ⟨p,st,l,s⟩|⟨c,x,st⟩|⟨ask,nm,st⟩
 {obtain⟨a,cap,e,_⟩:=Z8;exact⟨_,_,_,_,_,_,_,_,_,_,_,_,e⟩};{obtain⟨at_,a,n,cap,lk,e⟩:=Z8;exact⟨_,_,_,_,_,_,_,_,_,_,_,_,e⟩};{obtain⟨at_,a,n,cap,lk,e⟩:=Z8;exact⟨_,_,_,_,_,_,_,_,_,_,_,_,e⟩}
theorem SoIs.set{v:ZD}{r:SO}(Z8:SoIs w base v r){k:Nat}(b:k<base)(j:Nat)(u:ZD):SoIs (ZT w (Q k j Y) u) base v r:=by
 rcases r with ⟨p,st,l,s⟩|⟨c,x,st⟩|⟨ask,nm,st⟩
 {obtain⟨a,cap,e,f⟩:=Z8;exact⟨a,cap,e,SF f (a:=(Q k j Y)) b u⟩};{exact Z8};{exact Z8}
theorem SoIs.mono{base':Nat}{v:ZD}{r:SO}(Z8:SoIs w base v r)(hb:base'<=base):SoIs w base' v r:=Z8.kept br hb
theorem zV{v:ZD}{r:SO}(Z8:SoIs w base v r){k:Nat}(b:k<base)(v0 v1 v2 v3 v4 v5 v6 v7 v8 v9:ZD):SoIs (ZT (ZT (ZT (ZT (ZT (ZT (ZT (ZT (ZT (ZT w (Q k 0 Y) v0) (Q k 1 Y) v1) (Q k 2 Y) v2) (Q k 3 Y) v3) (Q k 4 Y) v4) (Q k 5 Y) v5) (Q k 6 Y) v6) (Q k 7 Y) v7) (Q k 8 Y) v8) (Q k 9 Y) v9) base v r :=
 (((((((((Z8.set b 0 v0).set b 1 v1).set b 2 v2).set b 3 v3).set b 4 v4).set b 5 v5).set b 6 v6).set b 7 v7).set b 8 v8).set b 9 v9
theorem yp (op n:Nat)(t a b:ByteArray)(h1:1<=op)(h11:op<=11):(bX op n t a b).length=bF op:=by rcases(show op=1∨op=2∨op=3∨op=4∨op=5∨op=6∨op=7∨op=8∨op=9∨op=10∨op=11 by omega) with rfl|rfl|rfl|rfl|rfl|rfl|rfl|rfl|rfl|rfl|rfl;all_goals rfl
theorem EY (h1:1<=op)(h11:op<=11)(Z8:j<bF op):op<=8:=by rcases(show op=1∨op=2∨op=3∨op=4∨op=5∨op=6∨op=7∨op=8∨op=9∨op=10∨op=11 by omega) with rfl|rfl|rfl|rfl|rfl|rfl|rfl|rfl|rfl|rfl|rfl;all_goals simp[bF] at Z8 ⊢
theorem Cn (op:Nat):bF op<=2:=by
 unfold bF;split;{omega};{split<;>omega}
def gF (b:List ByteArray)(pl:ByteArray)(r:List ByteArray)(p st l:Nat):SO:=if b.all (λx=>decide (x.size<=2000)) then .inl (p,st,l,(b.reverse++r)) else .inr (.inl (2,pl,st))
theorem zW{b:List ByteArray}(Z8:j<ZU b):(b.take (j+1)).map Value.string=(b.take j).map Value.string++[U (b.getD j ⟨#[]⟩)]:=by rw[List.take_add_one,AI,gq Z8];simp[Z8]
theorem Co (b r:List ByteArray):strs (b.reverse++r)=strs r++b.map Value.string:=by simp[strs]
theorem EZ{b:List ByteArray}(Z8:j<ZU b)(f:¬ ((b.getD j ⟨#[]⟩).size:Int)<=2000):b.all (λx=>decide (x.size<=2000))=ZB:=by simp only[List.all_eq_false];exact⟨b[j],gz Z8,by simp[Z8] at f ⊢;omega⟩
theorem Cp{b:List ByteArray}(Z8:∀i,i<ZU b->(b.getD i ⟨#[]⟩).size<=2000):b.all (λx=>decide (x.size<=2000))=ZF:=by simp only[List.all_eq_true,nX];intro x f;obtain⟨i,hi,rfl⟩:=List.mem_iff_getElem.1 f;have:=Z8 i hi;simpa[hi] using this
def gX (y:Nat->ay)(n place st looks:Nat):Res->SO
 |.inr (.inl (c,x))=>.inr (.inl (c,x,st))
 |.inl (s',p)=>.inl (p,st,looks,s')
 |.inr (.inr (a,nm,s'))=>jI y n a nm s' (place+1) st looks
def fN (f:Nat->Ins)(cnt:Nat)(y:Nat->ay)(n place steps looks:Nat)(s:List ByteArray):SO:=gX y n place (cO cnt place steps) looks (bG f cnt place steps looks s)
theorem zX{i:List ZD}(Z8:ZY w base e 1 (Z a n cap) n i):(a=Y/\n=0/\cap=0)∨∃g,a=T (Q g 0 Y):=by
 rcases Z8.2 with ⟨f,_⟩|⟨g,c,cur,b,_⟩
 {simp only[KU] at f;exact .inl f};{simp only[KU] at b;exact .inr ⟨g,b.1⟩}
theorem yq (op k:Nat)(t a b:ByteArray)(h1:1<=op)(h11:op<=11)(h2:op≠2)(g:t.size<=2000)(f:a.size<=2000)(hb:b.size<=2000):(bX op k t a b).all (λx=>decide (x.size<=2000))=ZF:=by
 rcases(show op=1∨op=3∨op=4∨op=5∨op=6∨op=7∨op=8∨op=9∨op=10∨op=11 by omega) with rfl|rfl|rfl|rfl|rfl|rfl|rfl|rfl|rfl|rfl;{simp[bX,g]};{simp only[bX,SZ,UC,OP,nX];split;{simp;omega};{exact f}};{simp only[bX,SZ,UC,OP,nX];split;{simp;omega};{decide}};{simp only[bX,SZ,UC,OP,nX];exact AD (pC _ _) f};{simp only[bX,SZ,UC,OP,nX];exact iW _};{simp[bX,f]};{simp[bX,f,hb]};{rfl};{rfl};{rfl}
theorem yr (op k:Nat)(t a b pl:ByteArray)(r:List ByteArray)(p st l:Nat)(h1:1<=op)(f:op<=11)(h2:op≠2)(Z8:t.size<=2000)(g:a.size<=2000)(hb:b.size<=2000):gF (bX op k t a b) pl r p st l=.inl (p,st,l,((bX op k t a b).reverse++r)):=by unfold gF;rw[yq op k t a b h1 f h2 Z8 g hb];rfl
theorem Gi (k:Nat)(t x z:ByteArray)(r:List ByteArray)(y:Nat->ay)(n place st looks:Nat):gX y n place st looks (cE 2 k t place looks (x::z::r))=gF (bX 2 k t x z) (dU place) r (place+1) st looks:=by
 unfold gF;simp only[cE,bX,SZ,UC,OP,L9];by_cases Z8:z.size+x.size<=2000;{rw[hU Z8,hU (by simpa using Z8)];rfl};{rw[eT Z8,eT (by simpa using Z8)];rfl}
theorem wJ (op:Nat)(y:Nat->ay)(n place st looks:Nat)(x:ByteArray)(r:List ByteArray)(b:Bool)(hb:((op:Int) == 12)=b):gX y n place st looks (ij b x r place looks)=jr y n op (dU place) x r (place+1) st looks:=by
 unfold ij jr;rw[hb];by_cases h1:av x=ZB;{rw[hU h1,hU h1];rfl};{rw[eT h1,eT h1];by_cases h2:looks=200;{rw[hU h2,hU h2];rfl};{rw[eT h2,eT h2];rfl}}
theorem Cq (l r:List ByteArray):strs (l++r)=strs r++strs l:=by simp[strs]
def topA (op:Nat)(s:List ByteArray):ByteArray:=if 0<aO op then s.getD 0 ⟨#[]⟩ else ⟨#[]⟩
def qw (op:Nat)(s:List ByteArray):ByteArray:=if 1<aO op then s.getD 1 ⟨#[]⟩ else ⟨#[]⟩
def mC (op k:Nat)(a:ByteArray)(place:Nat):Nat:=if op=10 then k else if op=11/\(a.toList=[]∨(a.toList == [48])=ZF) then k else place+1
theorem He{k place:Nat}{ZZ:ByteArray}(Z8:op=10∨op=11/\ZZ.toList.isEmpty=ZF∨op=11/\(ZZ.toList == [48])=ZF):mC op k ZZ place=k:=by
 unfold mC;rcases Z8 with rfl|⟨rfl,Z8⟩|⟨rfl,Z8⟩
 {rfl};{rw[eT (by omega),hU ⟨rfl,.inl (List.isEmpty_iff.1 Z8)⟩]};{rw[eT (by omega),hU ⟨rfl,.inr Z8⟩]}
theorem E7 (op:Nat)(ZZ:ByteArray)(Z8:op<=15):op=15∨op=14∨op=12∨op=13∨op=10∨(op=11/\ZZ.toList.isEmpty=ZF)∨(op=11/\ZZ.toList.isEmpty=ZB/\(ZZ.toList == [48])=ZF)∨(op=11/\ZZ.toList.isEmpty=ZB/\(ZZ.toList == [48])=ZB)∨op<=9:=by
 by_cases e:op=11;{subst e;cases ZZ.toList.isEmpty<;>cases (ZZ.toList == [48])<;>simp};{omega}
theorem ub (Z8:∀x∈s,x.size<=2000)(op:Nat):(topA op s).size<=2000/\(qw op s).size<=2000:=by
 have g:∀j,(s.getD j ⟨#[]⟩).size<=2000:=λj=>by
  rw[CP];rcases hj:s[j]? with _|x;{exact DN _};{exact Z8 x (IN hj)}
 refine⟨?_,?_⟩;{unfold topA;split;{exact g 0};{exact DN _}};{unfold qw;split;{exact g 1};{exact DN _}}
theorem Ct (op k:Nat)(t:ByteArray)(s:List ByteArray)(y:Nat->ay)(n place st looks:Nat)(h1:1<=op)(f:op<=11)(hb:aO op<=ZU s)(i:t.size<=2000)(b:∀x∈s,x.size<=2000):gX y n place st looks (cE op k t place looks s)=gF (bX op k t (topA op s) (qw op s)) (dU place) (s.drop (aO op)) (mC op k (topA op s) place) st looks:=by
 have Z8:=(ub b op).1;have g:=(ub b op).2;by_cases h2:op=2
 ·subst h2;match s,hb with
  |x::z::r,_=>exact Gi k t x z r y n place st looks
 ·rw[yr op k t _ _ _ _ _ _ _ h1 f h2 i Z8 g];rcases(show op=1∨op=3∨op=4∨op=5∨op=6∨op=7∨op=8∨op=9∨op=10∨op=11 by omega) with rfl|rfl|rfl|rfl|rfl|rfl|rfl|rfl|rfl|rfl;{rfl};iterate 3
   ·match s,hb with
    |x::r,_=>rfl
  ·match s,hb with
   |x::z::r,_=>rfl
  ·match s,hb with
   |x::r,_=>rfl
  ·match s,hb with
   |x::z::r,_=>rfl
  ·match s,hb with
   |x::r,_=>rfl
  {rfl}
  ·match s,hb with
   |x::r,_ =>show gX y n place st looks (cE 11 k t place looks (x::r))=.inl (mC 11 k x place,st,looks,r);simp only[cE,gX,mC,show((11:Nat)=10)=False by simp,QE,TG]
theorem Fa (op k:Nat)(t:ByteArray)(s:List ByteArray)(y:Nat->ay)(n place st looks:Nat)(Z8:op=12∨op=13)(hb:aO op<=ZU s):gX y n place st looks (cE op k t place looks s)=jr y n op (dU place) (topA op s) (s.drop (aO op)) (place+1) st looks:=by
 rcases Z8 with rfl|rfl
 ·match s,hb with
  |x::r,_=>exact wJ 12 y n place st looks x r ZF rfl
 ·match s,hb with
  |x::r,_=>exact wJ 13 y n place st looks x r ZB rfl
theorem wK (op k:Nat)(t:ByteArray)(s:List ByteArray)(y:Nat->ay)(n place st looks:Nat)(Z8:op=14∨op=15)(hb:aO op<=ZU s):gX y n place st looks (cE op k t place looks s)=.inr (.inl (15 - (op:Int),topA op s,st)):=by
 rcases Z8 with rfl|rfl
 ·match s,hb with
  |x::r,_=>rfl
 ·match s,hb with
  |x::r,_=>rfl
def dV (f:Nat->af)(l:Link):ay :=
 if l.ask=ZF then
  (if (f l.L.toNat).H=1 then ⟨ZF,0,(f l.L.toNat).B⟩ else if (f l.L.toNat).H=3 then ⟨ZF,(f l.L.toNat).E,(f l.L.toNat).B⟩ else ⟨ZB,0,⟨#[]⟩⟩)
 else ⟨l.has,0,⟨#[]⟩⟩
def yOf (f:Nat->af)(p:Nat)(k:Nat):ay:=dV f ((f p).m k)
def aZ (f:Nat->af)(p k:Nat):Turn:=bW (f p).u (f p).l (yOf f p) k 2001 0 0 0 []
def eo (f:Nat->af)(p k:Nat):Bool:=(aZ f p k).K || !((aZ f p k).e.toList == ((f p).m k).e.toList) || !((aZ f p k).ask == ((f p).m k).ask)
def ep (f:Nat->af)(p:Nat):Nat->Nat->Nat
 |0,k=>k
 |j+1,k=>if eo f p k=ZF then k else ep f p j (k+1)
def bo (f:Nat->af)(p:Nat):Nat:=ep f p (f p).f 0
def fS (f:Nat->af)(p:Nat):Int :=
 if bo f p<(f p).f then 4 else if (aZ f p (bo f p)).K=ZB then 4 else if (aZ f p (bo f p)).E=(f p).E/\(aZ f p (bo f p)).B.toList=(f p).B.toList then 0 else 5
def codeF (f:Nat->af)(p:Nat):Int:=if (f p).H=3 then fS f p else 0
def yt (f:Nat->af):Nat->Int × Int
 |0=>(0,0)
 |k+1=>if (yt f k).1=0 then (if codeF f k=0 then (0,0) else (codeF f k,(k:Int))) else yt f k
theorem oF (f:Nat->af)(p:Nat):∀j k,k<=ep f p j k/\ep f p j k<=k+j
 |0,k=>⟨j6 _,j6 _⟩
 |j+1,k=>by
  rw[ep];split
  ·omega
  ·have:=oF f p j (k+1)
   omega
theorem uc{k:Nat}(Z8:eo f p k=ZB):ep f p (j+1) k=ep f p j (k+1):=by rw[ep,eT (by rw[Z8];simp)]
theorem ud{k:Nat}(Z8:eo f p k=ZF):ep f p (j+1) k=k:=by rw[ep,hU Z8]
theorem GW (b:∀i,i<n->codeF f i=0):yt f n=(0,0):=by
 induction n with
 |zero=>rfl
 |succ m g=>rw[yt,g λi hi=>b i (by omega),hU rfl,hU (b m (by omega))]
theorem d9 (Z8:aK f n=ZF):∀p,p<n->(f p).B.size<=2000/\((f p).H=1/\(f p).E=0∨(f p).H=2/\(f p).E=0/\(f p).B.size=0∨(f p).H=3/\0<=(f p).E/\(f p).E<=5/\valid (f p).u (f p).l=ZF/\(f p).f<=200):=by
 intro p g;have h1:=dY (dy Z8).2.2 p g;simp only[ba,j5,kindOk,nX] at h1;obtain⟨⟨_,i⟩,h2⟩:=h1;refine⟨i,?_⟩;split at h2;{rename_i b;simp only[aP,j5,nX] at h2;exact .inl ⟨b,h2.1.1⟩};{split at h2;{rename_i b;simp only[aP,j5,nX] at h2;exact .inr (.inl ⟨b,h2.1.1.1,h2.2⟩)};{split at h2;{rename_i b;simp only[bT,j5,nX] at h2;exact .inr (.inr ⟨b,h2.1.1.1.1,h2.1.1.1.2,h2.1.1.2,h2.1.2⟩)};{simp at h2}}}
theorem wL (Z8:aK f n=ZF){l:Link}(g:l.ask=ZF->l.L.toNat<n):cy (dV f l)=ZF:=by
 unfold dV cy;split;{rename_i b;obtain⟨h1,h2⟩:=d9 Z8 _ (g b);split;{simp;omega};{split;{rename_i hk1 hk3;rcases h2 with h2|h2|h2;{omega};{omega};{simp;omega}};{exact MR ⟨DN _,by decide,by decide⟩}}};{exact MR ⟨DN _,TF _,show(0:Int)<=7 by decide⟩}
theorem ue{k:Nat}(Z8:∀i,i<k->cy (y i)=ZF):bP y k=ZF:=by
 induction k with
 |zero=>rfl
 |succ k b=>rw[bP,b λi hi=>Z8 i (by omega),Z8 k (by omega)];rfl
theorem jJ (Z8:aK f n=ZF){l:Link}(i:l.ask=ZF)(j:l.L.toNat<n):dV f l=⟨decide (¬ (f l.L.toNat).H=2),(f l.L.toNat).E,(f l.L.toNat).B⟩:=by
 obtain⟨h1,h2⟩:=d9 Z8 _ j;unfold dV;rw[hU i];rcases h2 with ⟨b,g⟩|⟨b,g,m⟩|⟨b,g⟩
 {rw[hU b,b,g];rfl};{rw[eT (by omega),eT (by omega),b,g];have:(f l.L.toNat).B=⟨#[]⟩:=UU (OU m);rw[this];rfl};{rw[eT (by omega),hU b,b];rfl}
theorem nR (u j n cap:Nat)(f:Nat->af)(l:Link)(w:G)(r:aK f n=ZF)(q:RowDeed w u j n f)(B:l.ask=ZF->0<=l.L/\l.L.toNat<n):Calls Pg 137 #[ZH #[Z (T (Q u j Y)) n cap],ZH #[U l.e,ZC l.ask,ZC l.has,J I l.L]] w λe w'=>e=ZG (ZH #[ZC (dV f l).has,J I (dV f l).E,U (dV f l).B])/\Below (A (h w)) w w':=by
 have X:=ae q;have s:=ae (λE:l.ask=ZF=>jJ r E (B E).2);have z:=ae B;have y:=ae (show l.ask=ZB->dV f l=⟨l.has,0,⟨#[]⟩⟩ from λZ8=>by unfold dV;rw[eT (by rw[Z8];simp)]);clear q r B;obtain⟨R,hR⟩:∃R,R=dV f l:=⟨_,rfl⟩
 rw[<-hR] at s y ⊢;clear hR;obtain⟨nm,ask,x,at_⟩:=l;dsimp only at s z y ⊢;have t:=ae ((((q9 w).alloc ly (N #[Z (T (Q u j Y)) n cap] 25)).alloc (by simp) (N #[U nm,ZC ask,ZC x,J I at_] 68)).alloc (by simp;omega) (N #[ZC ZB,J I 0,U ⟨#[]⟩] 125));cases ask with
 |false =>
  obtain rfl:R=⟨x,0,⟨#[]⟩⟩:=y.out rfl;dsimp only;go_enter func137,ntmps137;go_wp2
  exact bp (v:=ZH #[ZC x,J I 0,U ⟨#[]⟩]) (by simp[results,results137,go_sem]) rfl ⟨rfl,by
   repeat (first|exact cM _ _|refine QZ ?_ (by simp<;>omega) _)⟩
 |true =>
  obtain⟨h1,h2⟩:=z.out rfl;obtain⟨p,rfl⟩:=p9 h1;have O:p<n:=by simpa using h2
  obtain rfl:R=⟨decide (¬ (f p).H=2),(f p).E,(f p).B⟩:=by have:=s.out rfl;simpa using this
  dsimp only;obtain⟨P,ZQ,ZP,ZJ,⟨K,C,ZL,ZM⟩,⟨ZN,ZZ,p5,ZO⟩⟩:=(X.out.aa t.out ly).2 p O;clear ZM ZO s y z;have hpn:(p:Int)<n:=by omega
  go_enter func137,ntmps137;go_wp2_with fail;clear P ZQ ZP ZJ ZL p5;obtain⟨m,o⟩:∃W:G,ZV (ZV (ZV w (N #[Z (T (Q u j Y)) n cap] 25)) (N #[U nm,ZC ZF,ZC x,J I (p:Int)] 68)) (N #[ZC ZB,J I 0,U ⟨#[]⟩] 125)=W:=⟨_,rfl⟩
  obtain⟨-,-,-,-,z0⟩:=nb3 o;have b:=ae o;clear o;have c0:ZW m (Q (A (h w)+1+1) 0 Y)=T (ZC ZB):=by rw[<-b.out];simp[go_sem]
  have D:ZX m (Q (A (h w)+1+1) 0 Y)=ZB:=by rw[<-b.out];simp[go_sem]
  have c1:ZW m (Q (A (h w)+1+1) 1 Y)=T (J I 0):=by rw[<-b.out];simp[go_sem]
  have ZS:ZX m (Q (A (h w)+1+1) 1 Y)=ZB:=by rw[<-b.out];simp[go_sem]
  have c2:ZW m (Q (A (h w)+1+1) 2 Y)=T (U ⟨#[]⟩):=by rw[<-b.out];simp[go_sem]
  have H:ZX m (Q (A (h w)+1+1) 2 Y)=ZB:=by rw[<-b.out];simp[go_sem]
  rw[b.out] at t ⊢;clear b;refine(zj (f p) K C ZN ZZ _).mono ?_;rintro e M ⟨rfl,i⟩;have g:A (h w)+1+1<A (h m):=by omega
  have L:=(i.cell (p:=(Q (A (h w)+1+1) 0 Y)) g).trans c0;have S:=(i.cell (p:=(Q (A (h w)+1+1) 1 Y)) g).trans c1;have V:=(i.cell (p:=(Q (A (h w)+1+1) 2 Y)) g).trans c2;have e0:=(i.frozen (p:=(Q (A (h w)+1+1) 0 Y)) g).trans D;have e1:=(i.frozen (p:=(Q (A (h w)+1+1) 1 Y)) g).trans ZS;have e2:=(i.frozen (p:=(Q (A (h w)+1+1) 2 Y)) g).trans H;have ZK:=ae (t.out.trans (i.mono t.out.size));have hz1:A (h w)+1+1<A (h M):=lj g i.size;clear i c0 c1 c2 D ZS H;go_wp2;exact bp (v:=ZH #[ZC (decide (¬ (f p).H=2)),J I (f p).E,U (f p).B]) (by simp[results,results137,go_sem,L,S,V]) rfl ⟨rfl,((ZK.out.setCell (p:=(Q (A (h w)+1+1) 0 Y)) (by simp;omega) _).setCell (p:=(Q (A (h w)+1+1) 1 Y)) (by simp;omega) _).setCell (p:=(Q (A (h w)+1+1) 2 Y)) (by simp;omega) _⟩
theorem pF (ZZ q n cap:Nat)(f:Nat->af)(p pb u o:Nat)(a1:Option Addr)(s:Nat)(w:G)(B:aK f n=ZF)(hp:p<n)(hk:(f p).H=3)(la:RowDeed w ZZ q n f)(hI:RowIns w pb u (f p).l (f p).u)(Bk:SlLink w a1 (f p).f (f p).m)(W:Tab2 w)(ZP:Pow w):Calls Pg 111 #[ZH #[Z (T (Q ZZ q Y)) n cap],ZH #[U (f p).e,J I (f p).H,J I (f p).E,U (f p).B,Z (T (Q pb u Y)) (f p).l o,Z a1 (f p).f s]] w λe w'=>e=ZG (.tuple #[(aZ f p (bo f p)).v,J I (((f p).f:Int) - (bo f p:Int))])/\Below (A (h w)) w w':=by
 have Hw:valid (f p).u (f p).l=ZF/\(f p).f<=200:=by
  rcases(d9 B p hp).2 with Z8|Z8|Z8;{omega};{omega};{exact⟨Z8.2.2.2.1,Z8.2.2.2.2⟩}
 obtain⟨hv,hN⟩:=Hw;have At:(f p).l<=200:=by have:=(bO hv).2.2;omega
 have Hm:=ae (bO hv).1;have K:=ae B;have ZJ:=ae (λj (hj:j<(f p).f) (O:((f p).m j).ask=ZF)=>(⟨(eA B p hp j hj O).1,Nat.lt_trans (eA B p hp j hj O).2.1 hp⟩:0<=((f p).m j).L/\((f p).m j).L.toNat<n));have bt:=ae la;have HI:=ae hI;have Ig:=ae Bk;have DE:=ae W;have n7:=ae ZP;have hib:=hI.1;have sm:=W.1;have hpwb:=ZP.lt;clear B la hI Bk W ZP hv hk;obtain⟨R,ZM⟩:∃R,R=aZ f p (bo f p):=⟨_,rfl⟩
 obtain⟨P,ph⟩:∃P,P=bo f p:=⟨_,rfl⟩
 rw[<-ZM,<-ph];have Hj:=ae ZM;have M:=ae ph;clear ZM ph;have ZN:=ae (show Below (A (h w)) w (ZV (ZV (ZV w (N #[Z (T (Q ZZ q Y)) n cap] 25)) (N #[U (f p).e,J I (f p).H,J I (f p).E,U (f p).B,Z (T (Q pb u Y)) (f p).l o,Z a1 (f p).f s] 44)) (N #[ZC ZB,J I 0,U ⟨#[]⟩,ZC ZB,U ⟨#[]⟩,J I 0] 122)) from(((q9 w).alloc ly (N #[Z (T (Q ZZ q Y)) n cap] 25)).alloc (by simp) (N #[U (f p).e,J I (f p).H,J I (f p).E,U (f p).B,Z (T (Q pb u Y)) (f p).l o,Z a1 (f p).f s] 44)).alloc (by simp;omega) (N #[ZC ZB,J I 0,U ⟨#[]⟩,ZC ZB,U ⟨#[]⟩,J I 0] 122));have zA:A (h (ZV (ZV (ZV w (N #[Z (T (Q ZZ q Y)) n cap] 25)) (N #[U (f p).e,J I (f p).H,J I (f p).E,U (f p).B,Z (T (Q pb u Y)) (f p).l o,Z a1 (f p).f s] 44)) (N #[ZC ZB,J I 0,U ⟨#[]⟩,ZC ZB,U ⟨#[]⟩,J I 0] 122)))=A (h w)+3:=by simp
 have kA:ZW (ZV (ZV (ZV w (N #[Z (T (Q ZZ q Y)) n cap] 25)) (N #[U (f p).e,J I (f p).H,J I (f p).E,U (f p).B,Z (T (Q pb u Y)) (f p).l o,Z a1 (f p).f s] 44)) (N #[ZC ZB,J I 0,U ⟨#[]⟩,ZC ZB,U ⟨#[]⟩,J I 0] 122)) (Q (A (h w)) 0 Y)=T (Z (T (Q ZZ q Y)) n cap):=by simp[go_sem]
 have Ia:ZW (ZV (ZV (ZV w (N #[Z (T (Q ZZ q Y)) n cap] 25)) (N #[U (f p).e,J I (f p).H,J I (f p).E,U (f p).B,Z (T (Q pb u Y)) (f p).l o,Z a1 (f p).f s] 44)) (N #[ZC ZB,J I 0,U ⟨#[]⟩,ZC ZB,U ⟨#[]⟩,J I 0] 122)) (Q (A (h w)+1) 4 Y)=T (Z (T (Q pb u Y)) (f p).l o):=by simp[go_sem]
 have n8:ZW (ZV (ZV (ZV w (N #[Z (T (Q ZZ q Y)) n cap] 25)) (N #[U (f p).e,J I (f p).H,J I (f p).E,U (f p).B,Z (T (Q pb u Y)) (f p).l o,Z a1 (f p).f s] 44)) (N #[ZC ZB,J I 0,U ⟨#[]⟩,ZC ZB,U ⟨#[]⟩,J I 0] 122)) (Q (A (h w)+1) 5 Y)=T (Z a1 (f p).f s):=by simp[go_sem]
 have XA:=ae (by have Z8:=ku (ZV (ZV w (N #[Z (T (Q ZZ q Y)) n cap] 25)) (N #[U (f p).e,J I (f p).H,J I (f p).E,U (f p).B,Z (T (Q pb u Y)) (f p).l o,Z a1 (f p).f s] 44)) (ZC ZB) (J I 0) (U ⟨#[]⟩) (ZC ZB) (U ⟨#[]⟩) (J I 0) 122;rw[show (A (h (ZV (ZV w (N #[Z (T (Q ZZ q Y)) n cap] 25)) (N #[U (f p).e,J I (f p).H,J I (f p).E,U (f p).B,Z (T (Q pb u Y)) (f p).l o,Z a1 (f p).f s] 44))))=A (h w)+1+1 by simp] at Z8;exact Z8);have S0:Sim m0 0 0 0 []:=⟨trivial,rfl,by simp,rfl,rfl,rfl,by simp,by omega,by omega,by omega⟩
 obtain⟨H0,Hi,DQ,Hv⟩:=oE (f:=(f p).u) (cnt:=(f p).l) (m:=m0) rfl S0;have H6:=ae Hi;have Ih:=ae DQ;have Ib:=ae Hv;clear Hi DQ Hv S0;go_enter func111,ntmps111;go_wp2_with fail;generalize World.alloc (World.alloc (World.alloc w _) _) _=WA at ZN zA kA Ia n8 XA ⊢;refine(zR pb u (f p).l o _).mono ?_;rintro e w1 ⟨b,rfl,hb,fd,th⟩;have Hr:=ae fd;have B1:Hid (Below (A (h w)+3) WA w1):=by show Below _ _ _;rw[<-zA];exact th
 have GS:A (h w)+3<=b:=by omega
 have hb1:b<A (h w1):=fd.lt;have aq:=ae (ZN.out.trans (B1.out.mono (by omega)));clear fd th hb;have Hn:Hid (Env w1 b pb u (f p).l (f p).u):=⟨HI.out.aa aq.out ly,DE.out.aa aq.out sm,n7.out.aa aq.out ly,by omega,by omega,by omega⟩
 go_wp2_with fail;refine(yn b pb u (f p).l o (f p).u m0 H0 ⟨ZB,0,⟨#[]⟩⟩ _ Hr.out Hn.out rfl At Hm.out H6.out).mono ?_;rintro e V ⟨z,rfl,Fd,Hl,Hq⟩;have ZL:=ae Fd;have Ii:=ae Hl;have B2:=ae (B1.out.trans (Hq.aa GS (by have:=B1.out.size;omega)));clear Fd Hl Hq Hr Hn;simp only[Turn.v];have Fk:=ae (ZL.out.al (N #[ZC z.t.K,J I z.t.E,U z.t.B,ZC z.t.ask,U z.t.e,J I z.t.j] 122));have ld:=ae (Cj V z.t 122);have B3:=ae (B2.out.alloc (by have:=B2.out.size;omega) (N #[ZC z.t.K,J I z.t.E,U z.t.B,ZC z.t.ask,U z.t.e,J I z.t.j] 122));have d5:=(B3.out.cell (p:=(Q (A (h w)+1) 5 Y)) (show (A (h w))+1<A (h w)+3 by omega)).trans n8;have DS:A (h w)+3<=A (h V):=by have:=B2.out.size;omega
 have Hy:b<A (h V):=ZL.out.lt;go_wp2;clear d5 ZL B2;generalize World.alloc V _=W3 at Fk ld B3 ⊢;generalize (A (h V))=g7 at ld DS Hy ⊢;go_loopw [19] (λi wr=>∃(k:Nat) (r:Mst) (H:Halt),k<=(f p).f/\i=J I k/\Hid (MAt wr b (Z (T (Q pb u Y)) (f p).l o) r)/\Hid (TurnBox wr g7 r.t)/\Hid (fC r H)/\Hid (jd k H)/\Hid (∀n,k<=n->fh (f p).u (f p).l (yOf f p) n H=bW (f p).u (f p).l (yOf f p) n 2001 0 0 0 [])/\Hid (ep f p ((f p).f - k) k=bo f p)/\Hid (Below (A (h w)+3) WA wr)) (λi _=>(f p).f - (intOf i).toNat);case atStart=>exact⟨0,z,H0,by omega,rfl,Fk.out,ld.out,Ii.out,Ih.out,λn _=>Ib.out (yOf f p) n,rfl,B3.out⟩
 case round =>
  obtain⟨k,r,H,hkN,rfl,HM,TB,HS,HL,HC,X,BW⟩:=hrel;have qr:=ae (ZN.out.trans (BW.out.mono (by omega)));have S:Hid (r.t=aZ f p k):=by show _=_;rw[<-vD (f:=(f p).u) (cnt:=(f p).l) (y:=yOf f p) HS.out HL.out];exact HC.out k ly
  by_cases ex:k<(f p).f
  ·obtain⟨bl,offl,rfl,Hp⟩:=(Ig.out.aa qr.out ly).resolve_left (by omega);obtain⟨r0,r1,r2,r3⟩:=Hp.2 k ex;obtain⟨l,hl⟩:∃l,(f p).m k=l:=⟨_,rfl⟩
   rw[hl] at r0 r1 r2 r3;obtain⟨nm,ask,E,at_⟩:=l;dsimp only at r0 r1 r2 r3;have D:=ae hl;clear Hp hl;obtain⟨j0,Fn⟩:∃j0,(f p).f - k=j0+1:=⟨(f p).f - k - 1,by omega⟩
   have ZQ:=ae (BW.out.alloc (by have:=BW.out.size;omega) (N #[U nm,ZC ask,ZC E,J I at_] 68));have TL:=ae (TB.out.aa ((q9 wr).alloc ly (N #[U nm,ZC ask,ZC E,J I at_] 68)) TB.out.1);have ML:=ae (HM.out.al (N #[U nm,ZC ask,ZC E,J I at_] 68));obtain⟨tl,⟨t0,t1,t2,t3,t4,t5⟩,tz⟩:=TL.out;clear tz;have WY:(eo f p k=ZF/\(r.t.K=ZF∨r.t.K=ZB/\((r.t.e.toList == nm.toList)=ZB∨(r.t.e.toList == nm.toList)=ZF/\(r.t.ask=ZF/\ask=ZB∨r.t.ask=ZB/\ask=ZF))))∨(eo f p k=ZB/\r.t.K=ZB/\(r.t.e.toList == nm.toList)=ZF/\r.t.ask=ask):=by unfold eo;rw[<-S.out,D.out];cases r.t.K<;>cases (r.t.e.toList == nm.toList)<;>cases r.t.ask<;>cases ask<;>simp
   rcases WY with ⟨x,WY⟩|⟨x,L,hn,C⟩
   ·replace x:=ae x;have ZS:Hid (P=k):=by show _=_;rw[M.out,<-X.out,Fn,ud x.out]
    have ZK:Hid (R=r.t):=by show _=_;rw[Hj.out,<-M.out,ZS.out,S.out]
    have d5:=(ZQ.out.cell (p:=(Q (A (h w)+1) 5 Y)) (show (A (h w))+1<A (h w)+3 by omega)).trans n8;have CW:=ae (ZN.out.trans (ZQ.out.mono (by omega)));have SX:=ae (XA.out.aa ZQ.out (by omega));have hx:=SX.out.1;obtain⟨⟨v0,q0,y0⟩,⟨v1,q1,y1⟩,⟨v2,q2,y2⟩,⟨v3,q3,y3⟩,⟨v4,q4,y4⟩,⟨v5,q5,y5⟩⟩:=bl6 SX.out.2;rcases WY with L|⟨L,hn|⟨hn,⟨C,rfl⟩|⟨C,rfl⟩⟩⟩
    all_goals
     rw[L] at t0
     (try rw[C] at t3)
     go_wp2_with fail;go_region;all_goals
      go_wp2;exact bp (v:=.tuple #[R.v,J I (((f p).f:Int) - (P:Int))]) (by rw[ZK.out,ZS.out];first|simp[results,results111,go_sem,Turn.v,L,C,q0,q1,q2,q3,q4,q5]|simp[results,results111,go_sem,Turn.v,L,q0,q1,q2,q3,q4,q5]) rfl ⟨rfl,(fJ CW.out (by omega) _ _ _ _ _ _).drew⟩
   ·replace x:=ae x;rw[L] at t0;rw[C] at t3;obtain⟨a,H7,s2,pp,st,l,rfl⟩:=vE HS.out L;have el:l=k+1:=HL.out;subst el;have Ht:=(ZQ.out.cell (p:=(Q (A (h w)) 0 Y)) (show (A (h w))<A (h w)+3 by omega)).trans kA;have CW:=ae (ZN.out.trans (ZQ.out.mono (by omega)));have HY:Hid (dV f ⟨nm,ask,E,at_⟩=yOf f p k):=by show _=_;unfold yOf;rw[D.out]
    have Hz:=ae (wL (l:=⟨nm,ask,E,at_⟩) K.out (λO=>by have:=ZJ.out k ex (by rw[D.out];exact O);rw[D.out] at this;exact this.2));have Ik:Hid ((dV f ⟨nm,ask,E,at_⟩).B.size<=2000):=by have:=Hz.out;simp only[cy,nX] at this;exact this.1
    have Ij:Hid (ask=ZF->0<=at_/\at_.toNat<n):=λO=>by have:=ZJ.out k ex (by rw[D.out];exact O);rw[D.out] at this;exact this
    cases ask
    all_goals
     go_wp2_with fail;clear t0 t1 t2 t3 t4 t5 r0 r1 r2 r3;generalize World.alloc wr _=WL at ZQ TL ML CW Ht tl ⊢;first|(guard_hyp C:r.t.ask=ZF;refine(nR ZZ q n cap f ⟨nm,ZF,E,at_⟩ _ K.out (bt.out.aa CW.out ly) (λ_=>Ij.out (by simp))).mono ?_)|refine(nR ZZ q n cap f ⟨nm,ZB,E,at_⟩ _ K.out (bt.out.aa CW.out ly) (λZ8=>by cases Z8)).mono ?_
     rintro e w4 ⟨rfl,ZO⟩;have Il:b<A (h WL):=ML.out.lt;have M4:=ae (ML.out.aa ZO Il);have T4:=ae (TL.out.aa ZO tl);have B4:=ae (ZQ.out.trans (ZO.mono (by have:=ZQ.out.size;omega)));have ro:=ae (ZN.out.trans (B4.out.mono (by omega)));have H9:Hid (Env w4 b pb u (f p).l (f p).u):=⟨HI.out.aa ro.out ly,DE.out.aa ro.out sm,n7.out.aa ro.out ly,by omega,by omega,by omega⟩
     clear ZO Ht;go_wp2_with fail;refine(zS b pb u (f p).l o (f p).u r a H7 s2 pp st (k+1) _ _ M4.out H9.out HS.out (by omega) Ik.out At Hm.out).mono ?_;rintro e w5 ⟨m2,H2,rfl,Fm,ur,Hu,Hk,n9⟩;have Ho:g7≠b:=by omega
     have T5:=ae (T4.out.ac n9 Ho);have M5:=ae (Fm.boxed Ho m2.t);have X5:=ae (ES m2.t T5.out);have B5:=ae (B4.out.trans (n9.aa GS (by have:=B4.out.size;omega)));have B6:=ae (B5.out.trans ((Ck (w:=w5) (g:=g7) m2.t).aa DS (by have:=B5.out.size;omega)));have Ie:=ae ur;have Ic:=ae Hu;have Id:Hid (∀n,k+1<=n->fh (f p).u (f p).l (yOf f p) n H2=bW (f p).u (f p).l (yOf f p) n 2001 0 0 0 []):=λn hn=>(Hk (yOf f p) n hn (by rw[NR];exact HY.out.symm)).symm.trans (HC.out n (by omega));have Hx:Hid (ep f p ((f p).f - (k+1)) (k+1)=bo f p):=by show _=_;rw[<-X.out,Fn,uc x.out,show(f p).f - (k+1)=j0 by omega]
     obtain⟨ul,⟨u0,u1,u2,u3,u4,u5⟩,uz⟩:=T5.out;obtain⟨z0,z1,z2,z3,z4,z5⟩:=al6 uz;clear Fm ur Hu Hk n9 M4 T4 uz;simp only[Turn.v];go_wp2;exact⟨⟨k+1,m2,H2,by omega,by go_num,M5.out,X5.out,Ie.out,Ic.out,Id.out,Hx.out,B6.out⟩,by simp[intOf];omega⟩
  ·obtain rfl:k=(f p).f:=by omega
   have ZS:Hid (P=(f p).f):=by show _=_;rw[M.out,<-X.out,RV];rfl
   have ZK:Hid (R=r.t):=by show _=_;rw[Hj.out,<-M.out,ZS.out,S.out]
   obtain⟨tl,⟨t0,t1,t2,t3,t4,t5⟩,tz⟩:=TB.out;have SX:=ae (XA.out.aa BW.out (by omega));have hx:=SX.out.1;obtain⟨⟨v0,q0,y0⟩,⟨v1,q1,y1⟩,⟨v2,q2,y2⟩,⟨v3,q3,y3⟩,⟨v4,q4,y4⟩,⟨v5,q5,y5⟩⟩:=bl6 SX.out.2;clear tz;go_wp2;exact bp (v:=.tuple #[R.v,J I (((f p).f:Int) - (P:Int))]) (by rw[ZK.out,ZS.out];simp[results,results111,go_sem,Turn.v,q0,q1,q2,q3,q4,q5]) rfl ⟨rfl,by first|exact fJ qr.out (by omega) _ _ _ _ _ _|exact fJ qr.out.drew (by omega) _ _ _ _ _ _⟩
def js (f:Nat->af)(p:Nat):Bool:=if (f p).H=3 then (!(aZ f p (bo f p)).K || decide (bo f p<(f p).f)) else ZB
def oG (f:Nat->af)(p:Nat):Bool:=if (f p).H=3 then (!decide ((aZ f p (bo f p)).E=(f p).E) || !((aZ f p (bo f p)).B.toList == (f p).B.toList)) else ZB
theorem Fb (f:Nat->af)(p:Nat):codeF f p=if js f p=ZF then 4 else if oG f p=ZF then 5 else 0:=by
 unfold codeF js oG;by_cases b:(f p).H=3
 ·rw[hU b,hU b,hU b];unfold fS;by_cases h1:bo f p<(f p).f;{simp[h1]}
  ·cases ho:(aZ f p (bo f p)).K with
   |false=>simp[h1]
   |true =>
    by_cases h2:(aZ f p (bo f p)).E=(f p).E
    ·by_cases g:(aZ f p (bo f p)).B.toList=(f p).B.toList;{simp[h1,h2,g]}
     ·have Z8:((aZ f p (bo f p)).B.toList == (f p).B.toList)=ZB:=by simpa using g
      simp[h1,h2,g,Z8]
    {simp[h1,h2]}
 {rw[eT b,eT b,eT b];simp}
theorem mD{f:Nat->Ins}(Z8:SlIns w a n f)(i:valid f n=ZF):∃pb g,a=T (Q pb g Y)/\RowIns w pb g n f:=by
 have hn:=(bO i).2;rcases Z8 with Z8|⟨b,off,e,j⟩
 {omega};{exact⟨b,off,e,j⟩}
theorem mE (r b n cap:Nat)(f:Nat->af)(l:Link)(w:G)(j:RowDeed w r b n f)(s:l.ask=ZF->0<=l.L/\l.L.toNat<n):Calls Pg 68 #[ZH #[Z (T (Q r b Y)) n cap],ZH #[U l.e,ZC l.ask,ZC l.has,J I l.L]] w λe w'=>e=ZG (ZH #[ZC (dV f l).has,J I (dV f l).E,U (dV f l).B])/\Below (A (h w)) w w':=by
 have x:=ae j;have o:=ae s;have i:=ae (show dV f l=if l.ask=ZF then (if (f l.L.toNat).H=1 then ⟨ZF,0,(f l.L.toNat).B⟩ else if (f l.L.toNat).H=3 then ⟨ZF,(f l.L.toNat).E,(f l.L.toNat).B⟩ else ⟨ZB,0,⟨#[]⟩⟩) else ⟨l.has,0,⟨#[]⟩⟩ from rfl);clear j s;obtain⟨R,hR⟩:∃R,R=dV f l:=⟨_,rfl⟩
 rw[<-hR] at i ⊢;clear hR;obtain⟨nm,ask,q,at_⟩:=l;dsimp only at o i ⊢;have t:=ae ((((q9 w).alloc ly (N #[Z (T (Q r b Y)) n cap] 25)).alloc (by simp) (N #[U nm,ZC ask,ZC q,J I at_] 68)).alloc (by simp;omega) (N #[ZC ZB,J I 0,U ⟨#[]⟩] 125));cases ask with
 |false =>
  obtain rfl:R=⟨q,0,⟨#[]⟩⟩:=by have:=i.out;simpa using this
  dsimp only;go_enter func68,ntmps68;go_wp2
  exact bp (v:=ZH #[ZC q,J I 0,U ⟨#[]⟩]) (by simp[results,UN,go_sem]) rfl ⟨rfl,by
   repeat (first|exact cM _ _|refine QZ ?_ (by simp<;>omega) _)⟩
 |true =>
  obtain⟨h1,h2⟩:=o.out rfl;obtain⟨p,rfl⟩:=p9 h1;have y:p<n:=by simpa using h2
  have g:=ae (show R=if (f p).H=1 then ⟨ZF,0,(f p).B⟩ else if (f p).H=3 then ⟨ZF,(f p).E,(f p).B⟩ else ⟨ZB,0,⟨#[]⟩⟩ by have:=i.out;simpa using this);clear i;obtain⟨p0,p1,p2,p3,⟨a2,cap2,p4,z⟩,⟨a3,cap3,p5,u⟩⟩:=(x.out.aa t.out ly).2 p y;clear z u o;have hpn:(p:Int)<n:=by omega
  go_enter func68,ntmps68;by_cases Z8:(f p).H=1
  ·obtain rfl:R=⟨ZF,0,(f p).B⟩:=by rw[g.out,hU Z8]
   go_wp2
   exact bp (v:=ZH #[ZC ZF,J I 0,U (f p).B]) (by simp[results,UN,go_sem]) rfl ⟨rfl,by
    repeat (first|exact cM _ _|refine QZ ?_ (by simp<;>omega) _)⟩
  ·by_cases m:(f p).H=3
   ·obtain rfl:R=⟨ZF,(f p).E,(f p).B⟩:=by rw[g.out,eT Z8,hU m]
    go_wp2
    exact bp (v:=ZH #[ZC ZF,J I (f p).E,U (f p).B]) (by simp[results,UN,go_sem]) rfl ⟨rfl,by
     repeat (first|exact cM _ _|refine QZ ?_ (by simp<;>omega) _)⟩
   ·obtain rfl:R=⟨ZB,0,⟨#[]⟩⟩:=by rw[g.out,eT Z8,eT m]
    go_wp2
    exact bp (v:=ZH #[ZC ZB,J I 0,U ⟨#[]⟩]) (by simp[results,UN,go_sem]) rfl ⟨rfl,by
     repeat (first|exact cM _ _|refine QZ ?_ (by simp<;>omega) _)⟩
theorem vH (K:Option Addr)(D L:Nat)(ZO:Option Addr)(ZS ZQ:Nat)(C b n cap:Nat)(f:Nat->af)(p:Nat)(a0:Option Addr)(j:Nat)(a1:Option Addr)(i:Nat)(w:G)(l:aK f n=ZF)(hp:p<n)(x:RowDeed w C b n f)(ZL:SlIns w a0 (f p).l (f p).u)(H:SlLink w a1 (f p).f (f p).m)(z:Tab2 w)(s:Pow w):Calls Pg 73 #[ZH #[Z (T (Q C b Y)) n cap,Z K D L,Z ZO ZS ZQ],ZH #[U (f p).e,J I (f p).H,J I (f p).E,U (f p).B,Z a0 (f p).l j,Z a1 (f p).f i]] w λe w'=>e=ZG (ZC (js f p))/\Below (A (h w)) w w':=by
 obtain⟨r,R⟩:∃r,r=js f p:=⟨_,rfl⟩
 rw[<-R];have P:=ae (show r=if (f p).H=3 then (!(aZ f p (bo f p)).K || decide (bo f p<(f p).f)) else ZB from R);clear R;have o:=ae (((q9 w).alloc ly (N #[Z (T (Q C b Y)) n cap,Z K D L,Z ZO ZS ZQ] 129)).alloc (by simp) (N #[U (f p).e,J I (f p).H,J I (f p).E,U (f p).B,Z a0 (f p).l j,Z a1 (f p).f i] 44));have ZN:=ae x;have ZK:=ae ZL;have X:=ae H;have ZJ:=ae z;have S:=ae s;have ZM:=z.1;clear x ZL H z s;by_cases m:(f p).H=3
 ·have u:valid (f p).u (f p).l=ZF:=by
   rcases(d9 l p hp).2 with Z8|Z8|Z8;{omega};{omega};{exact Z8.2.2.2.1}
  obtain⟨pb,po,rfl,E⟩:=mD ZK.out u;have aq:=ae E;have HK:=ae m;have B:Hid (r=(!(aZ f p (bo f p)).K || decide (bo f p<(f p).f))):=by show _=_;rw[P.out,hU m]
  have M:=oF f p (f p).f 0;have ZP:Hid (bo f p<=(f p).f):=by show ep f p (f p).f 0<=_;omega
  have O:=ae l;rw[m] at o;clear E u ZK l M P;have y:=λW (g:Below (A (h w)) w W)=>pF C b n cap f p pb po j a1 i W O.out hp HK.out (ZN.out.aa g ly) (aq.out.aa g ly) (X.out.aa g ly) (ZJ.out.aa g ZM) (S.out.aa g ly);generalize aZ f p (bo f p)=t at B y;generalize bo f p=q at B y ZP;rw[m] at y;have bt:=ae y;clear y;rw[m];go_enter func73,ntmps73;go_wp2_with fail;refine(bt.out _ o.out).mono ?_;rintro e w1 ⟨rfl,g⟩;have V:=ae (o.out.trans (g.mono o.out.size));have ZZ:=ae (V.out.alloc V.out.size (N #[ZC t.K,J I t.E,U t.B,ZC t.ask,U t.e,J I t.j] 122));have M:=ZP.out;clear g;simp only[Turn.v];cases ho:t.K with
  |false =>
   obtain rfl:r=ZF:=by rw[B.out,ho];rfl
   rw[ho] at ZZ;go_wp2;go_ret;exact⟨rfl,ZZ.out⟩
  |true =>
   rw[ho] at ZZ;by_cases hq:q<(f p).f
   ·obtain rfl:r=ZF:=by rw[B.out,ho];simp[hq]
    have hgt:(0:Int)<((f p).f:Int) - (q:Int):=by omega
    go_wp2;go_ret;exact⟨rfl,ZZ.out⟩
   ·obtain rfl:r=ZB:=by rw[B.out,ho];simp[hq]
    have hz:((f p).f:Int) - (q:Int)=0:=by omega
    rw[hz];go_wp2;go_ret;exact⟨rfl,ZZ.out⟩
 ·obtain rfl:r=ZB:=by rw[P.out,eT m]
  go_enter func73,ntmps73;go_wp2;go_ret;exact⟨rfl,o.out⟩
theorem zY (K:Option Addr)(E L:Nat)(M:Option Addr)(H ZP:Nat)(D g n cap:Nat)(f:Nat->af)(p:Nat)(a0:Option Addr)(j:Nat)(a1:Option Addr)(i:Nat)(w:G)(l:aK f n=ZF)(ZJ:p<n)(y:RowDeed w D g n f)(ZL:SlIns w a0 (f p).l (f p).u)(ZQ:SlLink w a1 (f p).f (f p).m)(ZZ:Tab2 w)(u:Pow w):Calls Pg 74 #[ZH #[Z (T (Q D g Y)) n cap,Z K E L,Z M H ZP],ZH #[U (f p).e,J I (f p).H,J I (f p).E,U (f p).B,Z a0 (f p).l j,Z a1 (f p).f i]] w λe w'=>e=ZG (ZC (oG f p))/\Below (A (h w)) w w':=by
 obtain⟨r,R⟩:∃r,r=oG f p:=⟨_,rfl⟩
 rw[<-R];have P:=ae (show r=if (f p).H=3 then (!decide ((aZ f p (bo f p)).E=(f p).E) || !((aZ f p (bo f p)).B.toList == (f p).B.toList)) else ZB from R);clear R;have s:=ae (((q9 w).alloc ly (N #[Z (T (Q D g Y)) n cap,Z K E L,Z M H ZP] 129)).alloc (by simp) (N #[U (f p).e,J I (f p).H,J I (f p).E,U (f p).B,Z a0 (f p).l j,Z a1 (f p).f i] 44));have ZN:=ae y;have X:=ae ZL;have V:=ae ZQ;have ZK:=ae ZZ;have S:=ae u;have ZM:=ZZ.1;clear y ZL ZQ ZZ u;by_cases m:(f p).H=3
 ·have x:valid (f p).u (f p).l=ZF:=by
   rcases(d9 l p ZJ).2 with Z8|Z8|Z8;{omega};{omega};{exact Z8.2.2.2.1}
  obtain⟨pb,po,rfl,ZS⟩:=mD X.out x;have aq:=ae ZS;have HK:=ae m;have B:Hid (r=(!decide ((aZ f p (bo f p)).E=(f p).E) || !((aZ f p (bo f p)).B.toList == (f p).B.toList))):=by show _=_;rw[P.out,hU m]
  have O:=ae l;rw[m] at s;clear ZS x X l P;have z:=λW (b:Below (A (h w)) w W)=>pF D g n cap f p pb po j a1 i W O.out ZJ HK.out (ZN.out.aa b ly) (aq.out.aa b ly) (V.out.aa b ly) (ZK.out.aa b ZM) (S.out.aa b ly);generalize aZ f p (bo f p)=t at B z;generalize bo f p=q at B z;rw[m] at z;have bt:=ae z;clear z;rw[m];go_enter func74,ntmps74;go_wp2_with fail;refine(bt.out _ s.out).mono ?_;rintro e ZO ⟨rfl,b⟩;have d2:ZW ZO (Q (A (h w)+1) 2 Y)=T (J I (f p).E):=(b.cell (p:=(Q (A (h w)+1) 2 Y)) (by simp)).trans (by simp[go_sem]);have d3:ZW ZO (Q (A (h w)+1) 3 Y)=T (U (f p).B):=(b.cell (p:=(Q (A (h w)+1) 3 Y)) (by simp)).trans (by simp[go_sem]);have hz1:A (h w)+1<A (h ZO):=by have:=b.size;simp at this;omega
  have o:=ae (s.out.trans (b.mono s.out.size));clear b;simp only[Turn.v];by_cases C:t.E=(f p).E
  ·cases ht:(t.B.toList == (f p).B.toList) with
   |true =>
    obtain rfl:r=ZB:=by rw[B.out];simp[C,ht]
    go_wp2;go_ret;exact⟨rfl,o.out.alloc o.out.size _⟩
   |false =>
    obtain rfl:r=ZF:=by rw[B.out];simp[C,ht]
    go_wp2;go_ret;exact⟨rfl,o.out.alloc o.out.size _⟩
  ·obtain rfl:r=ZF:=by rw[B.out];simp[C]
   have hc2:(t.E == (f p).E)=ZB:=by simpa using C
   go_wp2;go_ret;exact⟨rfl,o.out.alloc o.out.size _⟩
 ·obtain rfl:r=ZB:=by rw[P.out,eT m]
  go_enter func74,ntmps74;go_wp2;go_ret;exact⟨rfl,s.out⟩
