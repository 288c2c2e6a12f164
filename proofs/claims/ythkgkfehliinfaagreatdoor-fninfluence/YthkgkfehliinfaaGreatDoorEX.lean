import Derived.Test.YthkgkfehliinfaaGreatDoorEN
import Derived.Test.YthkgkfehliinfaaGreatDoorET
set_option linter.all false
set_option maxRecDepth 100000
set_option maxHeartbeats 4000000
open Go renaming Addr.mk->Q,Value.slice->Y,Value.string->U,Value.int->J,Value.agg->ZJ,Obj.cells->N,IntKind.i64->I,World->E,Value->ZB,Ending.returned->ZI,World.heap->z,World.ownsRow->ZW,World.setCell->ZU
open Option renaming none->Z,some->T
open Array renaming size->A
open List renaming length->ZV
namespace Go.Proofs.YthkgkfehliinfaaGreatDoor.Vp
open Tryz RowKit Ca
variable {W:E}{S:x_}{G:F_->Nat}{V:F_->ZB}{o:ZB}{f:List zt}
def Az (W:E)(B:Nat)(S:x_)(x:zt)(act:ZB):Prop:=∃a j_,act=Y a (bP S x) j_/\((bP S x=0/\a=Z/\j_=0)\/∃b off,a=T (Q b off Z)/\b<B/\Q_ W b off (bP S x) (S.f1 x.tg).u)
structure Plc (B:Nat)(S:x_)(W:E)(jh:List zt)(G:F_->Nat)(V:F_->ZB)(k:Nat)(mdv:ZB):Prop where
 row:ZW W B 153 1 mdv (ZV jh) (jW G jh)
 ent:∀(i:Nat) (x:zt),jh[i]?=T x->B<=G x.e/\(∃act,EntBlk W (G x.e) x.e x.m x.M x.H act (V x.e) (if i<k then (i:Int) else 0)/\Az W B S x act)/\ZW W B 206 5 (V x.e) (ZV x.D) (fE G x.D)
 dist:jh.Pairwise λx y=>G x.e≠G y.e
def Dr{q:E}{g:List zt}(h:lF q S W g o)(ZY:g≠[]->SpcOk S)(C:g≠[]->∀b off n f,0<n->Q_ q b off n f->Q_ W b off n f):∃G V,Plc (A (z q)) S W g G V 0 o:=by
 obtain⟨G,V,h1,h2,y⟩:=h;refine⟨G,V,h1,λi x B=>?_,y⟩;have r:=I5 B;have m:g≠[]:=λe=>by rw[e] at r;exact absurd r nj
 obtain⟨⟨act,hb,l⟩,u,ZX⟩:=h2 x r;refine⟨u,⟨act,by simpa using hb,?_⟩,ZX⟩;unfold oF at l;split at l
 ·rename_i j;obtain⟨s,a,j_,rfl,t⟩:=l;have e:bP S x=(S.f1 x.tg).h:=by unfold bP;rw[eT j]
  obtain⟨_,hv,_⟩:=bJ ((ZY m).u x.tg s);obtain⟨b,off,rfl,p⟩:=t.resolve_left (by omega);exact⟨_,j_,by rw[e],.inr ⟨b,off,rfl,p.1,by rw[e];exact C m b off _ _ (by omega) p⟩⟩
 ·rename_i j;have e:bP S x=0:=by unfold bP;rw[eI j]
  exact⟨Z,0,by rw[e];exact l,.inl ⟨e,rfl,rfl⟩⟩
def Plc.next{B:Nat}{k:Nat}{y:zt}(h:Plc B S W f G V k o)(p:f[k]?=T y):Plc B S (ZU W (Q (G y.e) 7 Z) (J I (k:Int))) f G V (k+1) o:=by
 obtain⟨hyB,⟨acty,H,hay⟩,hry⟩:=h.ent k y p;have l:∀{size n:Nat} {e:TypeId} {v:ZB} {u:List ZB},ZW W B e size v n u->e≠156->(ZU W (Q (G y.e) 7 Z) (J I (k:Int))).ownsRow B e size v n u:=λZX j=>aB ZX (λe=>mH ZX H e j) _ _;have s:∀{x:zt} {act:ZB},Az W B S x act->Az (ZU W (Q (G y.e) 7 Z) (J I (k:Int))) B S x act:=λ⟨a,j_,e,t⟩=>⟨a,j_,e,t.imp id λ⟨b,off,ZS,hb,r⟩=>⟨b,off,ZS,hb,r.setOther _ (by show G y.e≠b;omega) _⟩⟩
 refine⟨l h.row (by decide),λi x m=>?_,h.dist⟩;obtain⟨ZY,⟨act,hb,t⟩,r⟩:=h.ent i x m;refine⟨ZY,⟨act,?_,s t⟩,l r (by decide)⟩;by_cases e:i=k
 ·subst e;rw[p] at m;cases m
  rw[eT (eL _)];rw[eI (Nat.lt_irrefl _)] at hb;exact aw hb _
 {have j:G x.e≠G y.e:=(by obtain⟨hi,D⟩:=j5.1 m;obtain⟨ZT,C⟩:=j5.1 p;rcases YO e with g|g;{have:=D0.1 h.dist i k hi ZT g;rw[D,C] at this;exact this};{have:=D0.1 h.dist k i ZT hi g;rw[D,C] at this;exact this.c});rw[show(if i<k+1 then (i:Int) else 0)=if i<k then (i:Int) else 0 by by_cases q:i<k<;>simp[q,show i<k+1 ↔ i<k by omega]];exact(qh _ _ _ _ j).k hb}
def Plc.keep{B:Nat}{W':E}{l:List zt}{k:Nat}{n:ZB}(h:Plc B S W l G V k n)(hz:A (z W)<=A (z W'))(m:∀j,j<A (z W)->W'.heap[j]?=W.heap[j]?):Plc B S W' l G V k n:=by refine⟨b9 h.row λj f=>m j (h.row.lt j f).2,λi x s=>?_,h.dist⟩;obtain⟨o,⟨act,hb,a,j_,e,t⟩,p⟩:=h.ent i x s;refine⟨o,⟨act,(m _ (ah hb)).k hb,a,j_,e,t.imp id λ⟨b,off,r,hb,g⟩=>⟨b,off,r,hb,lj g.1 hz,λj f=>?_⟩⟩,b9 p λj f=>m j (p.lt j f).2⟩;have e:=m b g.1;obtain⟨q,h1,h2⟩:=g.2 j f;exact⟨(cq (a:=(Q b _ Z)) e).k q,(cq (a:=(Q b _ Z)) e).k h1,(cq (a:=(Q b _ Z)) e).k h2⟩
def zd.grown{b:Nat}{w l:E}{row:Option Nat}(h:zd b W w)(f:w.grownBy l row)(o:∀j,row=T j->A (z W)<=j):zd b W l:=by
 have i:∀k,k<A (z W)->l.heap[k]?=w.heap[k]?:=λk g=>f.p k (lj g h.size) λe=>by have:=o k e.c;omega
 exact⟨f.os.k h.os,f.tape.k h.tape,f.output.k h.output,nX h.size f.size,λk g n=>(i k g).k (h.p k g n),λm t fz hb=>let ⟨cs',h'⟩:=h.ty m t fz hb;⟨cs',(i b (aj hb)).k h'⟩⟩
def Ds (w:E)(b f g i l m:ZB)(t:TypeId):∀j u,[b,f,g,i,l,m][j]?=T u->(w.alloc (N #[b,f,g,i,l,m] t)).cell? (((Q (A (z w)) 0 Z):Addr).add j)=T u:=by
 intro j u h;rw[addr_add];match j,h with
 |0,h=>simp at h;subst h;simp
 |1,h=>simp at h;subst h;simp
 |2,h=>simp at h;subst h;simp
 |3,h=>simp at h;subst h;simp
 |4,h=>simp at h;subst h;simp
 |5,h=>simp at h;subst h;simp
 |k+6,h=>simp at h
def Plc.settled{B:Nat}{ZX:ZB}(h:Plc B S W f G V (ZV f) ZX)(m:PG S [] f)(D:∀i,i<S.n1->aP (S.f1 i)){i:Nat}{x:zt}(n:f[i]?=T x):Calls Tryz.prog 91 #[.pointer (T (Q (G x.e) 0 Z))] W λr q=>∃u p,r=ZI (ZJ #[U x.e,J I x.m,J I x.M,U x.H,u,p])/\DSub q (A (z W)) (bo S f x,u,p)/\Below (A (z W)) W q:=by obtain⟨_,⟨act,hb,a,j_,rfl,ZR⟩,H⟩:=h.ent i x n;have t:=I5 n;have s:=Ce m D (bo S f x) (U2 t);refine xF S f G x W (G x.e) B a j_ (V x.e) _ hb (ZR.imp id λ⟨b,off,e,_,C⟩=>⟨b,off,e,C⟩) s.1 (m.W x t).D H λl ZT ZS=>?_;obtain⟨y,o,hn,hlt⟩:=m.asked n ZT ZS;obtain⟨_,⟨acty,ZY,_⟩,_⟩:=h.ent _ y o;obtain⟨g,-,-,-,-,-,-,-,j,-⟩:=ZY.K;rw[eT (j5.1 o).1] at j;rw[hn] at j g;exact⟨j,g⟩
section
variable {S:x_}{a0 a1:O_}{c0 c1:Nat}
def wA (w:E)(nm:F_)(At:Qx w a0 S.n0 S.f0)(ph:Qq w a1 S.n1 S.f1)(hn0:S.n0<=1048576)(hn1:S.n1<=1048576)(O:∀i,i<S.n1->aP (S.f1 i))(hT:Tab w)(ex:Tab2 w)(hP:Pow w):Calls Tryz.prog 51 #[ZJ #[Y a0 S.n0 c0,Y a1 S.n1 c1],U nm] w λe w'=>∃a c R rv,e=ZI (.tuple #[ZJ #[Y a (ZV R) c],rv])/\DRow w' (A (z w)) (Y a (ZV R) c) R/\R.map (·.1)=bk S (bE S nm).1/\oJ w w' (bE S nm).2 rv/\Below (A (z w)) w w':=by
 obtain⟨u,hW⟩:∃W:E,((w.alloc (N #[Y a0 S.n0 c0,Y a1 S.n1 c1] 29)).alloc (N #[Y Z 0 0] 25)).alloc (N #[J I 0,U ⟨#[]⟩,Y Z 0 0] 60)=W:=⟨_,rfl⟩
 obtain⟨A0,-,kA,kR,hz0⟩:=nb3 hW;have HW:=ae hW;have HB:=ae (Do (c0:=c0) (c1:=c1) u nm (At.aa A0 ly) (ph.aa A0 ly) hn0 hn1 O (hT.aa A0 hT.1) (ex.aa A0 ex.1) (hP.aa A0 ly));clear hW;obtain⟨ZL,ZR,ZX⟩:=mh S nm;have JP:=ae O;obtain⟨bb,mv⟩:∃bb,bb=bE S nm:=⟨_,rfl⟩
 rw[<-mv] at HB ZL ZR ZX ⊢;clear At ph O hT ex hP mv;obtain⟨b,r⟩:=bb;simp only at ZL ZR ZX ⊢;have JN:=ae ZL;have n8:=ae ZX;clear ZL ZX;obtain⟨JK,hi,JJ,Fm,Fd⟩:=NP gC;go_enter func51,ntmps51;go_wp2_with fail;rw[HW.i];clear HW;refine HB.P ?_;rintro e w1⟨wb,mdv,rv,th,rfl,ZO,⟨a,c,rfl,o⟩,ZP,P⟩;obtain⟨G,V,ZS⟩:=Dr ZO n8 P;obtain⟨am,cm,rfl⟩:=bM ZS.row;have DQ:A (z u)<=A (z wb):=th.size;obtain⟨W1,ZQ⟩:∃W:E,w1.alloc (N #[J I r.M,U r.H,Y a (ZV r.R) c] 60)=W:=⟨_,rfl⟩
 obtain⟨A1,k1,-⟩:=nb1 ZQ;have bt:=ae ZQ;clear ZQ;have O1:=ae (J_ o A1 ly);have P1:=ae (ZS.keep A1.size λj m=>A1.p j m);have B1:=ae (ZP.k (A1.P ZP.size));have JO:A (z u)<=A (z w1):=ZP.size;obtain⟨B,ur⟩:∃B,B=A (z wb):=⟨_,rfl⟩
 rw[<-ur] at P1 DQ;clear th ZO o ZP P ZS ur HB n8;obtain⟨L,hL⟩:∃L,L=ZV b:=⟨_,rfl⟩
 have HL:=ae hL;rw[<-hL] at ZR P1 ⊢;clear hL;go_wp2;rw[bt.i];clear bt;generalize (A (z w1))=rb at k1 JO ⊢;clear A1;go_loopw [21] (λi wr=>∃k:Nat,k<=L/\i=J I k/\Hid (Plc B S wr b G V k (Y am L cm))/\Hid (wr.heap[rb]?=T (N #[J I r.M,U r.H,Y a (ZV r.R) c] 60 (0,0)))/\Hid (ZW wr (A (z u)) 9 1 (Y a (ZV r.R) c) (ZV r.R) (bO r.R))/\Hid (Below (A (z u)) u wr)) (λi _=>L - (intOf i).toNat);case atStart=>exact⟨0,by omega,rfl,P1,k1,O1,B1⟩
 case round =>
  clear P1 k1 O1 B1;obtain⟨k,hk,rfl,P2,k2,O2,B2⟩:=hrel;by_cases Fk:k<L
  ·obtain⟨y,hy⟩:∃y,b[k]?=T y:=⟨_,gq (by rw[<-HL.i];exact Fk)⟩
   obtain⟨hyB,⟨act,ZM,-⟩,-⟩:=P2.ent k y hy;have f:=P2.row;rw[<-HL.i] at f;obtain⟨gm,JM,e⟩:=dr f (by omega);simp only[IN,TX] at e;obtain⟨rfl,rfl⟩:=e;have cp:wr.cell? (Q gm k Z)=T (.pointer (T (Q (G y.e) 0 Z))):=(bA f (by rw[jW,L8,hy];rfl)).1;have JL:=(cV f).2;obtain⟨hyl,-,-,-,-,-,-,-,y7,yf⟩:=ZM.K;have yf7:=yf 7;have P3:=ae (P2.next hy);have k3:Hid ((ZU wr (Q (G y.e) 7 Z) (J I (k:Int))).heap[rb]?=T (N #[J I r.M,U r.H,Y a (ZV r.R) c] 60 (0,0))):=(qh _ _ _ _ (λe=>by have:=ar (e ▸ k2.i) ZM;exact absurd this (by decide))).k k2;have O3:=ae (aB O2 (λe=>mH O2 ZM e (by decide)) 7 (J I (k:Int)));have B3:=ae (B2.setCell (p:=(Q (G y.e) 7 Z)) (by show (A (z u))<=G y.e;omega) (J I (k:Int)));clear hy yf ZM f;go_wp2;exact⟨⟨k+1,by omega,by go_num,P3,k3,O3,B3⟩,by simp[intOf];omega⟩
  ·have e:k=L:=by omega
   subst e;obtain⟨s,M⟩:∃W:E,wr.alloc (N #[Y Z 0 0] 25)=W:=⟨_,rfl⟩
   obtain⟨A3,k3,hz3⟩:=nb1 M;have la:=ae M;clear M;go_wp2;rw[la.i];clear la;obtain⟨g,Hx⟩:∃g,g=wr:=⟨_,rfl⟩
   subst Hx;go_loopw [33] (λi wq=>∃(q:Nat) (l:O_) (c5:Nat) (R:List DR),q<=k/\i=J I q/\(ZV R)=q/\Hid (R.map (·.1)=(b.take q).map (bo S b))/\Hid (DRow wq (A (z s)) (Y l q c5) R)/\Hid (wq.heap[A (z g)]?=T (N #[Y l q c5] 25 (0,0)))/\Hid (zd (A (z g)) s wq)) (λi _=>k - (intOf i).toNat);case atStart=>exact⟨0,Z,0,[],by omega,rfl,rfl,rfl,jK _ _,k3,zd.refl _ _⟩
   case round =>
    obtain⟨q,l,c5,R,hq,rfl,ZT,sm,D4,k4,Y4⟩:=hrel;have Id:A (z s)<=A (z wr):=Y4.size;have JH:A (z g)<A (z s):=by omega
    by_cases JI:q<k
    ·obtain⟨x,hx⟩:∃x,b[q]?=T x:=⟨_,gq (by rw[<-HL.i];exact JI)⟩
     have P5:Hid (Plc B S wr b G V (ZV b) (Y am k cm)):=by have h:=P2.keep (W':=wr) (by omega) λj m=>(Y4.p j (by omega) (by omega)).k (A3.p j m);rw[<-HL.i];exact h
     have f:=P5.row;rw[<-HL.i] at f;obtain⟨gm,JM,e⟩:=dr f (by omega);simp only[IN,TX] at e;obtain⟨rfl,rfl⟩:=e;have cp:wr.cell? (Q gm q Z)=T (.pointer (T (Q (G x.e) 0 Z))):=(bA f (by rw[jW,L8,hx];rfl)).1;have JL:=(cV f).2;have JG:Hid (Calls Tryz.prog 91 #[.pointer (T (Q (G x.e) 0 Z))] wr.drew λr w'=>∃va vl,r=ZI (ZJ #[U x.e,J I x.m,J I x.M,U x.H,va,vl])/\DSub w' wr.drew.heap.size (bo S b x,va,vl)/\Below wr.drew.heap.size wr.drew w'):=(P5.keep (W':=wr.drew) ly λj _=>rfl).settled JN JP hx;have HX:=ae hx;have SQ:Hid (∀V:E,(∀j,j<A (z wr)->T j≠(Value.slice l q c5).ownBlock->V.heap[j]?=wr.heap[j]?)->V.heap[A (z g)]?=T (N #[Y l q c5] 25 (0,0))/\V.cell? (Q (A (z g)) 0 Z)=T (Y l q c5)):=λV hV=>by have h1:=(hV (A (z g)) (ah k4) λe=>by have h:=D4.y;rw[ZT] at h;have:=(h.lt _ e.c).1;omega).k k4;exact⟨h1,by simp[World.cell?,h1]⟩
     clear f hx;go_wp2_with fail;refine aI (λV=>V.heap[A (z g)]?=T (N #[Y l q c5] 25 (0,0))/\V.cell? (Q (A (z g)) 0 Z)=T (Y l q c5)) 7 (by as_aux_lemma=>kernel_rfl) ?_;have HS:=ae (SQ wr.drew (λj m _=>rfl));iterate 3
      refine aO 0 (v:=?_) rfl rfl (by as_aux_lemma=>kernel_rfl) (λ_ _ _ h=>h) rfl ?_ HS ?_;rotate_left
      ·(rintro wz⟨s0,s1⟩;go_simp)
       (try with_reducible rfl)
      (try simp only[Act.put,yh])
     refine ai (i:=3) rfl (by as_aux_lemma=>kernel_rfl) λK n=>?_;go_simp;go_at_call 91;refine JG.P ?_;rintro e C⟨va,vl,rfl,ZN,ZY⟩;have aq:C.ownsRow (A (z wr)) 124 3 va (bP S x) (bZ (S.f1 x.tg).u (bP S x)):=ZN.u;have fd:C.ownsRow (A (z wr)) 74 4 vl (ZV x.D) (cy (lkF b x.D) (ZV x.D)):=ZN.az;obtain⟨D,ld⟩:∃D,D=bP S x:=⟨_,rfl⟩
     obtain⟨H,n9⟩:∃H,H=ZV x.D:=⟨_,rfl⟩
     rw[<-ld] at aq;rw[<-n9] at fd;obtain⟨ag,cg,rfl⟩:=bM aq;obtain⟨al,cl,rfl⟩:=bM fd;clear aq fd;have B5:Hid (Below (A (z wr)) wr C):=⟨ZY.os,ZY.tape,ZY.output,ZY.size,ZY.p⟩
     have S5:Hid (DSub C (A (z wr)) (bo S b x,Y ag D cg,Y al H cl)):=ZN;clear ZN ZY ld n9;refine n _ _ (λ_=>SQ _ (λj m _=>B5.p j m)) ?_;clear n K HS
     (try simp only[Act.put,yh])
     refine ai (i:=4) rfl (by as_aux_lemma=>kernel_rfl) λK n=>?_;go_simp;have AB:=ae ((BS C).alloc ly (N #[U x.e,J I x.m,J I x.M,U x.H,Y ag D cg,Y al H cl] 58));have B6:=ae (B5.k (AB.P B5.size));have D6:=ae (D4.aa B6 ly);have S6:=ae (S5.aa AB ly);have OW:Hid (ZW World (C.alloc (N #[U x.e,J I x.m,J I x.M,U x.H,Y ag D cg,Y al H cl] 58)) (A (z s)) 58 6 (Y l q c5) q (R.flatMap ddV)):=by have h:=D6.y;rw[ZT] at h;exact h
     refine n _ _ (λ_=>SQ _ (λj m _=>B6.p j m)) ?_;clear n K
     (try simp only[Act.put,yh])
     refine ai (i:=5) rfl (by as_aux_lemma=>kernel_rfl) λK n=>?_;refine aU rfl (.tmp 38) (.tmp 41) 23 rfl (A (z s)) 58 JK (ZJ #[U ⟨#[]⟩,J I 0,J I 0,U ⟨#[]⟩,Y Z 0 0,Y Z 0 0]) 6 96 QC hi JJ Fm Fd rfl (by decide) (Y l q c5) q (R.flatMap ddV) (by simp[Act.eval]) OW.i (Q (A (z C)) 0 Z) 1 1 [U x.e,J I x.m,J I x.M,U x.H,Y ag D cg,Y al H cl] (by simp[Act.eval]) rfl (Ds C _ _ _ _ _ _ _) (by simp[Value.oneCell']) (by unfold maxLen;omega) (by omega) (by have:=B6.size;omega) ?_;intro v' w7 o t _;obtain⟨a7,c7,rfl⟩:=bM o;have Bk:∀j,(Value.slice l q c5).ownBlock=T j->A (z s)<=j:=λj e=>(OW.lt j e).1;have S7:=ae (SQ w7 (λj m GS=>(t.p j (lj m B6.size) GS).k (B6.p j m)));have D7:Hid (DRow w7 (A (z s)) (Y a7 (q+1) c7) (R++[(bo S b x,Y ag D cg,Y al H cl)])):=DRow.more D4 D6 Id S6 (by rw[ZT];exact o) t;have Y7:=ae ((Y4.k (zd.q B6)).grown t Bk);clear o t Bk;refine n _ _ (λ_=>S7) ?_;clear n K
     (try simp only[Act.put,yh])
     refine ai (i:=6) rfl (by as_aux_lemma=>kernel_rfl) λK n=>?_;go_simp;refine n _ _ (λ_=>S7) ?_;clear n K
     (try simp only[Act.put,yh])
     obtain⟨s7,t7⟩:=S7.i;have f7:w7.frozen? (Q (A (z g)) 0 Z)=false:=by simp[World.frozen?,s7]
     have l7:=ah s7;have D8:=ae (D7.set (p:=(Q (A (z g)) 0 Z)) (e:=25) (.inl JH) (Y a7 (q+1) c7));have k8:Hid ((ZU w7 (Q (A (z g)) 0 Z) (Y a7 (q+1) c7)).heap[A (z g)]?=T (N #[Y a7 (q+1) c7] 25 (0,0))):=aw s7 _;have Y8:=ae (ce Y7 0 (Y a7 (q+1) c7));clear s7;refine ai (i:=7) rfl (by as_aux_lemma=>kernel_rfl) λK n=>?_;go_simp;refine n _ _ (λh=>absurd rfl h) ?_;clear n K
     (try simp only[Act.put,yh])
     refine ba (by as_aux_lemma=>kernel_rfl) ?_ _;go_wp2;refine⟨⟨q+1,a7,c7,_,by omega,by go_num,by rw[cM,ZT];rfl,?_,D8,k8,Y8⟩,by simp[intOf];omega⟩;show(R++[((bo S b x,Y ag D cg,Y al H cl):DR)]).map (·.1)=_;rw[NE,sm.i,V4,HX.i];simp
    ·have e:q=k:=by omega
     subst e;have hab2:A (z g)≠A (z w)+1:=by have:=B2.size;omega
     have hab3:A (z g)≠A (z w)+1+1:=by have:=B2.size;omega
     have hwA:=B2.size;have BW:Hid (Below (A (z u)) u wr):=B2.k ((A3.P (by omega)).k (Y4.aa (by omega) (by omega)));have X:=(BW.p (A (z w)+1) (by omega)).k kA;have qr:=(BW.p (A (z w)+1+1) (by omega)).k kR;have DE:rb<A (z g):=ah k2.i;have ro:wr.heap[rb]?=_:=(Y4.p rb (by omega) (by omega)).k ((A3.p rb DE).k k2);have O4:Hid (ZW wr (A (z u)) 9 1 (Y a (ZV r.R) c) (ZV r.R) (bO r.R)):=b9 O2 λj m=>(Y4.p j (by have:=(O2.lt j m).2;omega) (by have:=(O2.lt j m).2;omega)).k (A3.p j (O2.lt j m).2);obtain⟨rl,r0,r1,r2,rf⟩:=dL qr;have rf0:=rf 0;have rf1:=rf 1;have rf2:=rf 2;obtain⟨bl,b0,b1,b2,-⟩:=dL ro;have p0:wr.cell? (Q (A (z w)+1) 0 Z)=T (Y Z 0 0):=by simp[World.cell?,X]
     have pf0:wr.frozen? (Q (A (z w)+1) 0 Z)=false:=by simp[World.frozen?,X]
     have pl:=ah X;have q0:wr.cell? (Q (A (z g)) 0 Z)=T (Y l q c5):=by simp[World.cell?,k4.i]
     have ql:=ah k4.i;clear rf X qr ro;have OF:=ae (aH (aH (aH (aH O4 (R:=A (z w)+1) (j:=0) (by omega) (Y l q c5)) (R:=A (z w)+1+1) (j:=0) (by omega) (J I r.M)) (R:=A (z w)+1+1) (j:=1) (by omega) (U r.H)) (R:=A (z w)+1+1) (j:=2) (by omega) (Y a (ZV r.R) c));have DF:=ae ((((D4.set (p:=(Q (A (z w)+1) 0 Z)) (e:=25) (.inl (by show (A (z w))+1<A (z s);omega)) (Y l q c5)).set (p:=(Q (A (z w)+1+1) 0 Z)) (e:=25) (.inl (by show (A (z w))+1+1<A (z s);omega)) (J I r.M)).set (p:=(Q (A (z w)+1+1) 1 Z)) (e:=25) (.inl (by show (A (z w))+1+1<A (z s);omega)) (U r.H)).set (p:=(Q (A (z w)+1+1) 2 Z)) (e:=25) (.inl (by show (A (z w))+1+1<A (z s);omega)) (Y a (ZV r.R) c));have BF:=ae (((((A0.k (BW.P (by omega))).setCell (p:=(Q (A (z w)+1) 0 Z)) (by show (A (z w))<=A (z w)+1;omega) (Y l q c5)).setCell (p:=(Q (A (z w)+1+1) 0 Z)) (by show (A (z w))<=A (z w)+1+1;omega) (J I r.M)).setCell (p:=(Q (A (z w)+1+1) 1 Z)) (by show (A (z w))<=A (z w)+1+1;omega) (U r.H)).setCell (p:=(Q (A (z w)+1+1) 2 Z)) (by show (A (z w))<=A (z w)+1+1;omega) (Y a (ZV r.R) c));go_wp2_with fail;go_region;all_goals
      go_wp2;refine bp (v:=.tuple #[ZJ #[Y l q c5],ZJ #[J I r.M,U r.H,Y a (ZV r.R) c]]) (by simp[results,results51,go_sem,p0,r0,r1,r2]) rfl ?_;subst ZT;refine⟨l,c5,R,_,rfl,?_,?_,⟨a,c,rfl,?_⟩,?_⟩
      ·exact(DF.P (by omega)).aa br.drew ly
      ·rw[sm.i,NV (by rw[<-HL.i];exact p7 _)]
       rfl
      ·exact aE (J_ OF br.drew ly) (by omega)
      ·exact BF.drew
end
