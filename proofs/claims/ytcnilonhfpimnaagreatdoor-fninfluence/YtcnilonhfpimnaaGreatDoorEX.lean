import Derived.Test.YtcnilonhfpimnaaGreatDoorEN
import Derived.Test.YtcnilonhfpimnaaGreatDoorET
set_option linter.all false
set_option maxRecDepth 100000
set_option maxHeartbeats 4000000
open Go renaming Addr.mk->T,Value.slice->Z,Value.string->U,Value.int->J,Value.agg->ZJ,Obj.cells->N,IntKind.i64->I,World->E,Value->ZB,Ending.returned->ZI,World.heap->z,World.ownsRow->ZV
open Option renaming none->Y,some->Q
open Array renaming size->A
open List renaming length->ZU
namespace Go.Proofs.YtcnilonhfpimnaaGreatDoor.Vp
open Tryz RowKit Ca
variable {W:E}{S:J_}{f:List k_}{G:F_->Nat}{V:F_->ZB}{o:ZB}
def Az (W:E)(B:Nat)(S:J_)(x:k_)(act:ZB):Prop:=∃a j_,act=Z a (bP S x) j_/\((bP S x=0/\a=Y/\j_=0)\/∃b off,a=Q (T b off Y)/\b<B/\Qj W b off (bP S x) (S.f1 x.tg).q)
structure Plc (B:Nat)(S:J_)(W:E)(q_:List k_)(G:F_->Nat)(V:F_->ZB)(k:Nat)(mdv:ZB):Prop where
 row:ZV W B 131 1 mdv (ZU q_) (jW G q_)
 ent:∀(i:Nat) (x:k_),q_[i]?=Q x->B<=G x.e/\(∃act,EntBlk W (G x.e) x.e x.L x.M x.H act (V x.e) (if i<k then (i:Int) else 0)/\Az W B S x act)/\ZV W B 184 5 (V x.e) (ZU x.D) (fE G x.D)
 dist:q_.Pairwise λx y=>G x.e≠G y.e
def Dr{r:E}{g:List k_}{m:ZB}(h:lF r S W g m)(B:g≠[]->SpcOk S)(ZW:g≠[]->∀b off n f,0<n->Qj r b off n f->Qj W b off n f):∃G V,Plc (A (z r)) S W g G V 0 m:=by
 obtain⟨G,V,h1,h2,C⟩:=h;refine⟨G,V,h1,λi x y=>?_,C⟩;have q:=J1 y;have p:g≠[]:=λe=>by rw[e] at q;exact absurd q nj
 obtain⟨⟨act,hb,l⟩,t,ZX⟩:=h2 x q;refine⟨t,⟨act,by simpa using hb,?_⟩,ZX⟩;unfold oF at l;split at l
 ·rename_i j;obtain⟨u,a,j_,rfl,s⟩:=l;have e:bP S x=(S.f1 x.tg).h:=by unfold bP;rw[eT j]
  obtain⟨_,hv,_⟩:=bJ ((B p).q x.tg u);obtain⟨b,off,rfl,o⟩:=s.resolve_left (by omega);exact⟨_,j_,by rw[e],.inr ⟨b,off,rfl,o.1,by rw[e];exact ZW p b off _ _ (by omega) o⟩⟩
 ·rename_i j;have e:bP S x=0:=by unfold bP;rw[eI j]
  exact⟨Y,0,by rw[e];exact l,.inl ⟨e,rfl,rfl⟩⟩
def Plc.next{B:Nat}{k:Nat}{y:k_}(h:Plc B S W f G V k o)(r:f[k]?=Q y):Plc B S (W.setCell (T (G y.e) 7 Y) (J I (k:Int))) f G V (k+1) o:=by
 obtain⟨hyB,⟨acty,ZW,hay⟩,hry⟩:=h.ent k y r;have g:∀{size n:Nat} {e:TypeId} {v:ZB} {ZX:List ZB},ZV W B e size v n ZX->e≠134->(W.setCell (T (G y.e) 7 Y) (J I (k:Int))).ownsRow B e size v n ZX:=λD j=>aB D (λe=>mH D ZW e j) _ _;have s:∀{x:k_} {act:ZB},Az W B S x act->Az (W.setCell (T (G y.e) 7 Y) (J I (k:Int))) B S x act:=λ⟨a,j_,e,p⟩=>⟨a,j_,e,p.imp id λ⟨b,off,ZS,hb,t⟩=>⟨b,off,ZS,hb,t.setOther _ (by show G y.e≠b;omega) _⟩⟩
 refine⟨g h.row (by decide),λi x m=>?_,h.dist⟩;obtain⟨C,⟨act,hb,p⟩,t⟩:=h.ent i x m;refine⟨C,⟨act,?_,s p⟩,g t (by decide)⟩;by_cases e:i=k
 ·subst e;rw[r] at m;cases m
  rw[eT (eL _)];rw[eI (Nat.lt_irrefl _)] at hb;exact aw hb _
 {have j:G x.e≠G y.e:=(by obtain⟨hi,H⟩:=j5.1 m;obtain⟨ZT,u⟩:=j5.1 r;rcases YO e with l|l;{have:=ES.1 h.dist i k hi ZT l;rw[H,u] at this;exact this};{have:=ES.1 h.dist k i ZT hi l;rw[H,u] at this;exact this.c});rw[show(if i<k+1 then (i:Int) else 0)=if i<k then (i:Int) else 0 by by_cases q:i<k<;>simp[q,show i<k+1 ↔ i<k by omega]];exact(qh _ _ _ _ j).k hb}
def Plc.keep{B:Nat}{W':E}{k:Nat}{n:ZB}(h:Plc B S W f G V k n)(hz:A (z W)<=A (z W'))(m:∀j,j<A (z W)->W'.heap[j]?=W.heap[j]?):Plc B S W' f G V k n:=by refine⟨b9 h.row λj l=>m j (h.row.lt j l).2,λi x q=>?_,h.dist⟩;obtain⟨o,⟨act,hb,a,j_,e,r⟩,p⟩:=h.ent i x q;refine⟨o,⟨act,(m _ (ah hb)).k hb,a,j_,e,r.imp id λ⟨b,off,s,hb,g⟩=>⟨b,off,s,hb,lj g.1 hz,λj l=>?_⟩⟩,b9 p λj l=>m j (p.lt j l).2⟩;have e:=m b g.1;obtain⟨t,h1,h2⟩:=g.2 j l;exact⟨(cq (a:=(T b _ Y)) e).k t,(cq (a:=(T b _ Y)) e).k h1,(cq (a:=(T b _ Y)) e).k h2⟩
def zt.grown{b:Nat}{w l:E}{row:Option Nat}(h:zt b W w)(f:w.grownBy l row)(o:∀j,row=Q j->A (z W)<=j):zt b W l:=by
 have i:∀k,k<A (z W)->l.heap[k]?=w.heap[k]?:=λk g=>f.p k (lj g h.size) λe=>by have:=o k e.c;omega
 exact⟨f.os.k h.os,f.tape.k h.tape,f.output.k h.output,nX h.size f.size,λk g m=>(i k g).k (h.p k g m),λn t fz hb=>let ⟨cs',h'⟩:=h.ty n t fz hb;⟨cs',(i b (aj hb)).k h'⟩⟩
def Ds (w:E)(g f b l m i:ZB)(t:TypeId):∀j u,[g,f,b,l,m,i][j]?=Q u->(w.alloc (N #[g,f,b,l,m,i] t)).cell? (((T (A (z w)) 0 Y):Addr).add j)=Q u:=by
 intro j u h;rw[addr_add];match j,h with
 |0,h=>simp at h;subst h;simp
 |1,h=>simp at h;subst h;simp
 |2,h=>simp at h;subst h;simp
 |3,h=>simp at h;subst h;simp
 |4,h=>simp at h;subst h;simp
 |5,h=>simp at h;subst h;simp
 |k+6,h=>simp at h
def Plc.settled{B:Nat}(h:Plc B S W f G V (ZU f) o)(n:PG S [] f)(H:∀i,i<S.n1->aP (S.f1 i)){i:Nat}{x:k_}(j:f[i]?=Q x):Calls Tryz.prog 76 #[.pointer (Q (T (G x.e) 0 Y))] W λr ZX=>∃ZW p,r=ZI (ZJ #[U x.e,J I x.L,J I x.M,U x.H,ZW,p])/\DSub ZX (A (z W)) (bo S f x,ZW,p)/\Below (A (z W)) W ZX:=by obtain⟨_,⟨act,hb,a,j_,rfl,D⟩,ZT⟩:=h.ent i x j;have t:=J1 j;have C:=Ce n H (bo S f x) (U2 t);refine xF S f G x W (G x.e) B a j_ (V x.e) _ hb (D.imp id λ⟨b,off,e,_,u⟩=>⟨b,off,e,u⟩) C.1 (n.W x t).D ZT λl ZR ZS=>?_;obtain⟨y,s,hn,hlt⟩:=n.asked j ZR ZS;obtain⟨_,⟨acty,q,_⟩,_⟩:=h.ent _ y s;obtain⟨g,-,-,-,-,-,-,-,m,-⟩:=q.y;rw[eT (j5.1 s).1] at m;rw[hn] at m g;exact⟨m,g⟩
section
variable {S:J_}{a0 a1:O_}{c0 c1:Nat}
def wA (w:E)(nm:F_)(n8:Qy w a0 S.n0 S.f0)(mv:Qx w a1 S.n1 S.f1)(hn0:S.n0<=1048576)(hn1:S.n1<=1048576)(ZR:∀i,i<S.n1->aP (S.f1 i))(hT:Tab w)(la:Tab2 w)(hP:Pow w):Calls Tryz.prog 45 #[ZJ #[Z a0 S.n0 c0,Z a1 S.n1 c1],U nm] w λe w'=>∃a c R rv,e=ZI (.tuple #[ZJ #[Z a (ZU R) c],rv])/\DRow w' (A (z w)) (Z a (ZU R) c) R/\R.map (·.1)=bk S (bE S nm).1/\oJ w w' (bE S nm).2 rv/\Below (A (z w)) w w':=by
 obtain⟨u,hW⟩:∃W:E,((w.alloc (N #[Z a0 S.n0 c0,Z a1 S.n1 c1] 29)).alloc (N #[Z Y 0 0] 25)).alloc (N #[J I 0,U ⟨#[]⟩,Z Y 0 0] 88)=W:=⟨_,rfl⟩
 obtain⟨A0,-,kA,kR,hz0⟩:=nb3 hW;have HW:=ae hW;have HB:=ae (Do (c0:=c0) (c1:=c1) u nm (n8.aa A0 ly) (mv.aa A0 ly) hn0 hn1 ZR (hT.aa A0 hT.1) (la.aa A0 la.1) (hP.aa A0 ly));clear hW;obtain⟨X,O,ZW⟩:=mh S nm;have JM:=ae ZR;obtain⟨bb,At⟩:∃bb,bb=bE S nm:=⟨_,rfl⟩
 rw[<-At] at HB X O ZW ⊢;clear n8 mv ZR hT la hP At;obtain⟨b,r⟩:=bb;simp only at X O ZW ⊢;have JJ:=ae X;have ro:=ae ZW;clear X ZW;obtain⟨Hx,hi,JO,Fm,JG⟩:=NP gC;go_enter func45,ntmps45;go_wp2_with fail;rw[HW.i];clear HW;refine HB.P ?_;rintro e w1⟨wb,mdv,rv,Bk,rfl,P,⟨a,c,rfl,o⟩,ZO,ZN⟩;obtain⟨G,V,ZS⟩:=Dr P ro ZN;obtain⟨am,cm,rfl⟩:=bM ZS.row;have DQ:A (z u)<=A (z wb):=Bk.size;obtain⟨W1,ZQ⟩:∃W:E,w1.alloc (N #[J I r.M,U r.H,Z a (ZU r.R) c] 88)=W:=⟨_,rfl⟩
 obtain⟨A1,k1,-⟩:=nb1 ZQ;have fd:=ae ZQ;clear ZQ;have O1:=ae (K_ o A1 ly);have P1:=ae (ZS.keep A1.size λj m=>A1.p j m);have B1:=ae (ZO.k (A1.P ZO.size));have JK:A (z u)<=A (z w1):=ZO.size;obtain⟨B,ld⟩:∃B,B=A (z wb):=⟨_,rfl⟩
 rw[<-ld] at P1 DQ;clear Bk P o ZO ZN ZS ld HB ro;obtain⟨L,hL⟩:∃L,L=ZU b:=⟨_,rfl⟩
 have HL:=ae hL;rw[<-hL] at O P1 ⊢;clear hL;go_wp2;rw[fd.i];clear fd;generalize (A (z w1))=rb at k1 JK ⊢;clear A1;go_loopw [21] (λi wr=>∃k:Nat,k<=L/\i=J I k/\Hid (Plc B S wr b G V k (Z am L cm))/\Hid (wr.heap[rb]?=Q (N #[J I r.M,U r.H,Z a (ZU r.R) c] 88 (0,0)))/\Hid (ZV wr (A (z u)) 9 1 (Z a (ZU r.R) c) (ZU r.R) (bO r.R))/\Hid (Below (A (z u)) u wr)) (λi _=>L - (intOf i).toNat);case atStart=>exact⟨0,by omega,rfl,P1,k1,O1,B1⟩
 case round =>
  clear P1 k1 O1 B1;obtain⟨k,hk,rfl,P2,k2,O2,B2⟩:=hrel;by_cases JI:k<L
  ·obtain⟨y,hy⟩:∃y,b[k]?=Q y:=⟨_,gq (by rw[<-HL.i];exact JI)⟩
   obtain⟨hyB,⟨act,ZM,-⟩,-⟩:=P2.ent k y hy;have f:=P2.row;rw[<-HL.i] at f;obtain⟨gm,Id,e⟩:=dr f (by omega);simp only[IS,TX] at e;obtain⟨rfl,rfl⟩:=e;have cp:wr.cell? (T gm k Y)=Q (.pointer (Q (T (G y.e) 0 Y))):=(bA f (by rw[jW,L8,hy];rfl)).1;have JL:=(cV f).2;obtain⟨hyl,-,-,-,-,-,-,-,y7,yf⟩:=ZM.y;have yf7:=yf 7;have P3:=ae (P2.next hy);have k3:Hid ((wr.setCell (T (G y.e) 7 Y) (J I (k:Int))).heap[rb]?=Q (N #[J I r.M,U r.H,Z a (ZU r.R) c] 88 (0,0))):=(qh _ _ _ _ (λe=>by have:=ar (e ▸ k2.i) ZM;exact absurd this (by decide))).k k2;have O3:=ae (aB O2 (λe=>mH O2 ZM e (by decide)) 7 (J I (k:Int)));have B3:=ae (B2.setCell (p:=(T (G y.e) 7 Y)) (by show (A (z u))<=G y.e;omega) (J I (k:Int)));clear hy yf ZM f;go_wp2;exact⟨⟨k+1,by omega,by go_num,P3,k3,O3,B3⟩,by simp[intOf];omega⟩
  ·have e:k=L:=by omega
   subst e;obtain⟨s,M⟩:∃W:E,wr.alloc (N #[Z Y 0 0] 25)=W:=⟨_,rfl⟩
   obtain⟨A3,k3,hz3⟩:=nb1 M;have aq:=ae M;clear M;go_wp2;rw[aq.i];clear aq;obtain⟨g,Fd⟩:∃g,g=wr:=⟨_,rfl⟩
   subst Fd;go_loopw [33] (λi wq=>∃(q:Nat) (l:O_) (c5:Nat) (R:List DR),q<=k/\i=J I q/\(ZU R)=q/\Hid (R.map (·.1)=(b.take q).map (bo S b))/\Hid (DRow wq (A (z s)) (Z l q c5) R)/\Hid (wq.heap[A (z g)]?=Q (N #[Z l q c5] 25 (0,0)))/\Hid (zt (A (z g)) s wq)) (λi _=>k - (intOf i).toNat);case atStart=>exact⟨0,Y,0,[],by omega,rfl,rfl,rfl,jK _ _,k3,zt.refl _ _⟩
   case round =>
    obtain⟨q,l,c5,R,hq,rfl,D,th,D4,k4,Y4⟩:=hrel;have JN:A (z s)<=A (z wr):=Y4.size;have GS:A (z g)<A (z s):=by omega
    by_cases JQ:q<k
    ·obtain⟨x,hx⟩:∃x,b[q]?=Q x:=⟨_,gq (by rw[<-HL.i];exact JQ)⟩
     have P5:Hid (Plc B S wr b G V (ZU b) (Z am k cm)):=by have h:=P2.keep (W':=wr) (by omega) λj m=>(Y4.p j (by omega) (by omega)).k (A3.p j m);rw[<-HL.i];exact h
     have f:=P5.row;rw[<-HL.i] at f;obtain⟨gm,Id,e⟩:=dr f (by omega);simp only[IS,TX] at e;obtain⟨rfl,rfl⟩:=e;have cp:wr.cell? (T gm q Y)=Q (.pointer (Q (T (G x.e) 0 Y))):=(bA f (by rw[jW,L8,hx];rfl)).1;have JL:=(cV f).2;have JH:Hid (Calls Tryz.prog 76 #[.pointer (Q (T (G x.e) 0 Y))] wr.drew λr w'=>∃va vl,r=ZI (ZJ #[U x.e,J I x.L,J I x.M,U x.H,va,vl])/\DSub w' wr.drew.heap.size (bo S b x,va,vl)/\Below wr.drew.heap.size wr.drew w'):=(P5.keep (W':=wr.drew) ly λj _=>rfl).settled JJ JM hx;have HX:=ae hx;have SQ:Hid (∀V:E,(∀j,j<A (z wr)->Q j≠(Value.slice l q c5).ownBlock->V.heap[j]?=wr.heap[j]?)->V.heap[A (z g)]?=Q (N #[Z l q c5] 25 (0,0))/\V.cell? (T (A (z g)) 0 Y)=Q (Z l q c5)):=λV hV=>by have h1:=(hV (A (z g)) (ah k4) λe=>by have h:=D4.u;rw[D] at h;have:=(h.lt _ e.c).1;omega).k k4;exact⟨h1,by simp[World.cell?,h1]⟩
     clear f hx;go_wp2_with fail;refine aI (λV=>V.heap[A (z g)]?=Q (N #[Z l q c5] 25 (0,0))/\V.cell? (T (A (z g)) 0 Y)=Q (Z l q c5)) 7 (by as_aux_lemma=>kernel_rfl) ?_;have HS:=ae (SQ wr.drew (λj m _=>rfl));iterate 3
      refine aO 0 (v:=?_) rfl rfl (by as_aux_lemma=>kernel_rfl) (λ_ _ _ h=>h) rfl ?_ HS ?_;rotate_left
      ·(rintro wz⟨s0,s1⟩;go_simp)
       (try with_reducible rfl)
      (try simp only[Act.put,z_])
     refine ai (i:=3) rfl (by as_aux_lemma=>kernel_rfl) λK n=>?_;go_simp;go_at_call 76;refine JH.P ?_;rintro e C⟨va,vl,rfl,ZL,ZX⟩;have ex:C.ownsRow (A (z wr)) 102 3 va (bP S x) (bZ (S.f1 x.tg).q (bP S x)):=ZL.q;have bt:C.ownsRow (A (z wr)) 65 4 vl (ZU x.D) (cy (lkF b x.D) (ZU x.D)):=ZL.az;obtain⟨H,ph⟩:∃H,H=bP S x:=⟨_,rfl⟩
     obtain⟨ZT,n9⟩:∃ZT,ZT=ZU x.D:=⟨_,rfl⟩
     rw[<-ph] at ex;rw[<-n9] at bt;obtain⟨ag,cg,rfl⟩:=bM ex;obtain⟨al,cl,rfl⟩:=bM bt;clear ex bt;have B5:Hid (Below (A (z wr)) wr C):=⟨ZX.os,ZX.tape,ZX.output,ZX.size,ZX.p⟩
     have S5:Hid (DSub C (A (z wr)) (bo S b x,Z ag H cg,Z al ZT cl)):=ZL;clear ZL ZX ph n9;refine n _ _ (λ_=>SQ _ (λj m _=>B5.p j m)) ?_;clear n K HS
     (try simp only[Act.put,z_])
     refine ai (i:=4) rfl (by as_aux_lemma=>kernel_rfl) λK n=>?_;go_simp;have AB:=ae ((BS C).alloc ly (N #[U x.e,J I x.L,J I x.M,U x.H,Z ag H cg,Z al ZT cl] 62));have B6:=ae (B5.k (AB.P B5.size));have D6:=ae (D4.aa B6 ly);have S6:=ae (S5.aa AB ly);have OW:Hid (ZV World (C.alloc (N #[U x.e,J I x.L,J I x.M,U x.H,Z ag H cg,Z al ZT cl] 62)) (A (z s)) 62 6 (Z l q c5) q (R.flatMap ddV)):=by have h:=D6.u;rw[D] at h;exact h
     refine n _ _ (λ_=>SQ _ (λj m _=>B6.p j m)) ?_;clear n K
     (try simp only[Act.put,z_])
     refine ai (i:=5) rfl (by as_aux_lemma=>kernel_rfl) λK n=>?_;refine aU rfl (.tmp 38) (.tmp 41) 23 rfl (A (z s)) 62 Hx (ZJ #[U ⟨#[]⟩,J I 0,J I 0,U ⟨#[]⟩,Z Y 0 0,Z Y 0 0]) 6 96 QC hi JO Fm JG rfl (by decide) (Z l q c5) q (R.flatMap ddV) (by simp[Act.eval]) OW.i (T (A (z C)) 0 Y) 1 1 [U x.e,J I x.L,J I x.M,U x.H,Z ag H cg,Z al ZT cl] (by simp[Act.eval]) rfl (Ds C _ _ _ _ _ _ _) (by simp[Value.oneCell']) (by unfold maxLen;omega) (by omega) (by have:=B6.size;omega) ?_;intro v' w7 o t _;obtain⟨a7,c7,rfl⟩:=bM o;have sm:∀j,(Value.slice l q c5).ownBlock=Q j->A (z s)<=j:=λj e=>(OW.lt j e).1;have S7:=ae (SQ w7 (λj m JP=>(t.p j (lj m B6.size) JP).k (B6.p j m)));have D7:Hid (DRow w7 (A (z s)) (Z a7 (q+1) c7) (R++[(bo S b x,Z ag H cg,Z al ZT cl)])):=DRow.more D4 D6 JN S6 (by rw[D];exact o) t;have Y7:=ae ((Y4.k (zt.l B6)).grown t sm);clear o t sm;refine n _ _ (λ_=>S7) ?_;clear n K
     (try simp only[Act.put,z_])
     refine ai (i:=6) rfl (by as_aux_lemma=>kernel_rfl) λK n=>?_;go_simp;refine n _ _ (λ_=>S7) ?_;clear n K
     (try simp only[Act.put,z_])
     obtain⟨s7,t7⟩:=S7.i;have f7:w7.frozen? (T (A (z g)) 0 Y)=false:=by simp[World.frozen?,s7]
     have l7:=ah s7;have D8:=ae (D7.set (p:=(T (A (z g)) 0 Y)) (e:=25) (.inl GS) (Z a7 (q+1) c7));have k8:Hid ((w7.setCell (T (A (z g)) 0 Y) (Z a7 (q+1) c7)).heap[A (z g)]?=Q (N #[Z a7 (q+1) c7] 25 (0,0))):=aw s7 _;have Y8:=ae (ce Y7 0 (Z a7 (q+1) c7));clear s7;refine ai (i:=7) rfl (by as_aux_lemma=>kernel_rfl) λK n=>?_;go_simp;refine n _ _ (λh=>absurd rfl h) ?_;clear n K
     (try simp only[Act.put,z_])
     refine ba (by as_aux_lemma=>kernel_rfl) ?_ _;go_wp2;refine⟨⟨q+1,a7,c7,_,by omega,by go_num,by rw[cM,D];rfl,?_,D8,k8,Y8⟩,by simp[intOf];omega⟩;show(R++[((bo S b x,Z ag H cg,Z al ZT cl):DR)]).map (·.1)=_;rw[NE,th.i,V4,HX.i];simp
    ·have e:q=k:=by omega
     subst e;have hab2:A (z g)≠A (z w)+1:=by have:=B2.size;omega
     have hab3:A (z g)≠A (z w)+1+1:=by have:=B2.size;omega
     have hwA:=B2.size;have BW:Hid (Below (A (z u)) u wr):=B2.k ((A3.P (by omega)).k (Y4.aa (by omega) (by omega)));have ZP:=(BW.p (A (z w)+1) (by omega)).k kA;have ur:=(BW.p (A (z w)+1+1) (by omega)).k kR;have DE:rb<A (z g):=ah k2.i;have qr:wr.heap[rb]?=_:=(Y4.p rb (by omega) (by omega)).k ((A3.p rb DE).k k2);have O4:Hid (ZV wr (A (z u)) 9 1 (Z a (ZU r.R) c) (ZU r.R) (bO r.R)):=b9 O2 λj m=>(Y4.p j (by have:=(O2.lt j m).2;omega) (by have:=(O2.lt j m).2;omega)).k (A3.p j (O2.lt j m).2);obtain⟨rl,r0,r1,r2,rf⟩:=dL ur;have rf0:=rf 0;have rf1:=rf 1;have rf2:=rf 2;obtain⟨bl,b0,b1,b2,-⟩:=dL qr;have p0:wr.cell? (T (A (z w)+1) 0 Y)=Q (Z Y 0 0):=by simp[World.cell?,ZP]
     have pf0:wr.frozen? (T (A (z w)+1) 0 Y)=false:=by simp[World.frozen?,ZP]
     have pl:=ah ZP;have q0:wr.cell? (T (A (z g)) 0 Y)=Q (Z l q c5):=by simp[World.cell?,k4.i]
     have ql:=ah k4.i;clear rf ZP ur qr;have OF:=ae (aH (aH (aH (aH O4 (R:=A (z w)+1) (j:=0) (by omega) (Z l q c5)) (R:=A (z w)+1+1) (j:=0) (by omega) (J I r.M)) (R:=A (z w)+1+1) (j:=1) (by omega) (U r.H)) (R:=A (z w)+1+1) (j:=2) (by omega) (Z a (ZU r.R) c));have DF:=ae ((((D4.set (p:=(T (A (z w)+1) 0 Y)) (e:=25) (.inl (by show (A (z w))+1<A (z s);omega)) (Z l q c5)).set (p:=(T (A (z w)+1+1) 0 Y)) (e:=25) (.inl (by show (A (z w))+1+1<A (z s);omega)) (J I r.M)).set (p:=(T (A (z w)+1+1) 1 Y)) (e:=25) (.inl (by show (A (z w))+1+1<A (z s);omega)) (U r.H)).set (p:=(T (A (z w)+1+1) 2 Y)) (e:=25) (.inl (by show (A (z w))+1+1<A (z s);omega)) (Z a (ZU r.R) c));have BF:=ae (((((A0.k (BW.P (by omega))).setCell (p:=(T (A (z w)+1) 0 Y)) (by show (A (z w))<=A (z w)+1;omega) (Z l q c5)).setCell (p:=(T (A (z w)+1+1) 0 Y)) (by show (A (z w))<=A (z w)+1+1;omega) (J I r.M)).setCell (p:=(T (A (z w)+1+1) 1 Y)) (by show (A (z w))<=A (z w)+1+1;omega) (U r.H)).setCell (p:=(T (A (z w)+1+1) 2 Y)) (by show (A (z w))<=A (z w)+1+1;omega) (Z a (ZU r.R) c));go_wp2_with fail;go_region;all_goals
      go_wp2;refine bp (v:=.tuple #[ZJ #[Z l q c5],ZJ #[J I r.M,U r.H,Z a (ZU r.R) c]]) (by simp[results,results45,go_sem,p0,r0,r1,r2]) rfl ?_;subst D;refine⟨l,c5,R,_,rfl,?_,?_,⟨a,c,rfl,?_⟩,?_⟩
      ·exact(DF.P (by omega)).aa br.drew ly
      ·rw[th.i,NV (by rw[<-HL.i];exact p7 _)]
       rfl
      ·exact aE (K_ OF br.drew ly) (by omega)
      ·exact BF.drew
end
