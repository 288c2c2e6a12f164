import Derived.Test.YtcnilonhfpimnaaGreatDoorEN
import Derived.Test.YtcnilonhfpimnaaGreatDoorET
set_option linter.all false
set_option maxRecDepth 100000
set_option maxHeartbeats 4000000
open Go renaming Addr.mk->T,Value.slice->Y,Value.string->U,Value.int->J,Value.agg->ZJ,Obj.cells->N,IntKind.i64->I,World->E,Value->ZB,Ending.returned->ZI,World.heap->z,World.ownsRow->ZW,World.setCell->ZU,Act.put->p_
open Option renaming none->Z,some->Q
open Array renaming size->A
open List renaming length->ZV
namespace Go.Proofs.YtcnilonhfpimnaaGreatDoor.Vp
open Tryz RowKit Ca
variable {W:E}{S:xl}{G:F_->Nat}{V:F_->ZB}{g f:List k_}
def Az (W:E)(B:Nat)(S:xl)(x:k_)(act:ZB):Prop:=∃a j_,act=Y a (bP S x) j_/\((bP S x=0/\a=Z/\j_=0)\/∃b off,a=Q (T b off Z)/\b<B/\Q_ W b off (bP S x) (S.f1 x.tg).q)
structure Plc (B:Nat)(S:xl)(W:E)(q_:List k_)(G:F_->Nat)(V:F_->ZB)(k:Nat)(mdv:ZB):Prop where
 row:ZW W B 131 1 mdv (ZV q_) (jW G q_)
 ent:∀(i:Nat) (x:k_),q_[i]?=Q x->B<=G x.e/\(∃act,EntBlk W (G x.e) x.e x.L x.M x.H act (V x.e) (if i<k then (i:Int) else 0)/\Az W B S x act)/\ZW W B 184 5 (V x.e) (ZV x.D) (fE G x.D)
 dist:q_.Pairwise λx y=>G x.e≠G y.e
def Dr{r:E}{p:ZB}(h:lF r S W g p)(y:g≠[]->SpcOk S)(ZX:g≠[]->∀b off n f,0<n->Q_ r b off n f->Q_ W b off n f):∃G V,Plc (A (z r)) S W g G V 0 p:=by
 obtain⟨G,V,h1,h2,B⟩:=h;refine⟨G,V,h1,λi x ZY=>?_,B⟩;have q:=I5 ZY;have m:g≠[]:=λe=>by rw[e] at q;exact absurd q nj
 obtain⟨⟨act,hb,l⟩,u,C⟩:=h2 x q;refine⟨u,⟨act,by simpa using hb,?_⟩,C⟩;unfold oF at l;split at l
 ·rename_i j;obtain⟨s,a,j_,rfl,t⟩:=l;have e:bP S x=(S.f1 x.tg).h:=by unfold bP;rw[eT j]
  obtain⟨_,hv,_⟩:=bJ ((y m).q x.tg s);obtain⟨b,off,rfl,o⟩:=t.resolve_left (by omega);exact⟨_,j_,by rw[e],.inr ⟨b,off,rfl,o.1,by rw[e];exact ZX m b off _ _ (by omega) o⟩⟩
 ·rename_i j;have e:bP S x=0:=by unfold bP;rw[eI j]
  exact⟨Z,0,by rw[e];exact l,.inl ⟨e,rfl,rfl⟩⟩
def Plc.next{B:Nat}{k:Nat}{o:ZB}{y:k_}(h:Plc B S W f G V k o)(t:f[k]?=Q y):Plc B S (ZU W (T (G y.e) 7 Z) (J I (k:Int))) f G V (k+1) o:=by
 obtain⟨hyB,⟨acty,D,hay⟩,hry⟩:=h.ent k y t;have l:∀{size n:Nat} {e:TypeId} {v:ZB} {u:List ZB},ZW W B e size v n u->e≠134->(ZU W (T (G y.e) 7 Z) (J I (k:Int))).ownsRow B e size v n u:=λZY g=>aB ZY (λe=>mH ZY D e g) _ _;have p:∀{x:k_} {act:ZB},Az W B S x act->Az (ZU W (T (G y.e) 7 Z) (J I (k:Int))) B S x act:=λ⟨a,j_,e,s⟩=>⟨a,j_,e,s.imp id λ⟨b,off,ZS,hb,r⟩=>⟨b,off,ZS,hb,r.setOther _ (by show G y.e≠b;omega) _⟩⟩
 refine⟨l h.row (by decide),λi x m=>?_,h.dist⟩;obtain⟨ZT,⟨act,hb,s⟩,r⟩:=h.ent i x m;refine⟨ZT,⟨act,?_,p s⟩,l r (by decide)⟩;by_cases e:i=k
 ·subst e;rw[t] at m;cases m
  rw[eT (eL _)];rw[eI (Nat.lt_irrefl _)] at hb;exact aw hb _
 {have g:G x.e≠G y.e:=(by obtain⟨hi,ZX⟩:=j5.1 m;obtain⟨C,H⟩:=j5.1 t;rcases YO e with j|j;{have:=D0.1 h.dist i k hi C j;rw[ZX,H] at this;exact this};{have:=D0.1 h.dist k i C hi j;rw[ZX,H] at this;exact this.c});rw[show(if i<k+1 then (i:Int) else 0)=if i<k then (i:Int) else 0 by by_cases q:i<k<;>simp[q,show i<k+1 ↔ i<k by omega]];exact(qh _ _ _ _ g).k hb}
def Plc.keep{B:Nat}{W':E}{k:Nat}{n:ZB}(h:Plc B S W g G V k n)(hz:A (z W)<=A (z W'))(m:∀j,j<A (z W)->W'.heap[j]?=W.heap[j]?):Plc B S W' g G V k n:=by refine⟨b9 h.row λj f=>m j (h.row.lt j f).2,λi x s=>?_,h.dist⟩;obtain⟨p,⟨act,hb,a,j_,e,r⟩,o⟩:=h.ent i x s;refine⟨p,⟨act,(m _ (ah hb)).k hb,a,j_,e,r.imp id λ⟨b,off,q,hb,l⟩=>⟨b,off,q,hb,lj l.1 hz,λj f=>?_⟩⟩,b9 o λj f=>m j (o.lt j f).2⟩;have e:=m b l.1;obtain⟨t,h1,h2⟩:=l.2 j f;exact⟨(cq (a:=(T b _ Z)) e).k t,(cq (a:=(T b _ Z)) e).k h1,(cq (a:=(T b _ Z)) e).k h2⟩
def zt.grown{b:Nat}{w l:E}{row:Option Nat}(h:zt b W w)(f:w.grownBy l row)(n:∀j,row=Q j->A (z W)<=j):zt b W l:=by
 have i:∀k,k<A (z W)->l.heap[k]?=w.heap[k]?:=λk g=>f.p k (lj g h.size) λe=>by have:=n k e.c;omega
 exact⟨f.os.k h.os,f.tape.k h.tape,f.output.k h.output,nX h.size f.size,λk g o=>(i k g).k (h.p k g o),λm t fz hb=>let ⟨cs',h'⟩:=h.ty m t fz hb;⟨cs',(i b (aj hb)).k h'⟩⟩
def Ds (w:E)(m b g f l i:ZB)(t:TypeId):∀j u,[m,b,g,f,l,i][j]?=Q u->(w.alloc (N #[m,b,g,f,l,i] t)).cell? (((T (A (z w)) 0 Z):Addr).add j)=Q u:=by
 intro j u h;rw[addr_add];match j,h with
 |0,h=>simp at h;subst h;simp
 |1,h=>simp at h;subst h;simp
 |2,h=>simp at h;subst h;simp
 |3,h=>simp at h;subst h;simp
 |4,h=>simp at h;subst h;simp
 |5,h=>simp at h;subst h;simp
 |k+6,h=>simp at h
def Plc.settled{B:Nat}{s:ZB}(h:Plc B S W f G V (ZV f) s)(m:PG S [] f)(ZR:∀i,i<S.n1->aP (S.f1 i)){i:Nat}{x:k_}(j:f[i]?=Q x):Calls Tryz.prog 76 #[.pointer (Q (T (G x.e) 0 Z))] W λr t=>∃q o,r=ZI (ZJ #[U x.e,J I x.L,J I x.M,U x.H,q,o])/\DSub t (A (z W)) (bo S f x,q,o)/\Below (A (z W)) W t:=by obtain⟨_,⟨act,hb,a,j_,rfl,H⟩,ZS⟩:=h.ent i x j;have ZY:=I5 j;have C:=Ce m ZR (bo S f x) (U2 ZY);refine xF S f G x W (G x.e) B a j_ (V x.e) _ hb (H.imp id λ⟨b,off,e,_,p⟩=>⟨b,off,e,p⟩) C.1 (m.W x ZY).D ZS λl D ZT=>?_;obtain⟨y,u,hn,hlt⟩:=m.asked j D ZT;obtain⟨_,⟨acty,ZX,_⟩,_⟩:=h.ent _ y u;obtain⟨g,-,-,-,-,-,-,-,n,-⟩:=ZX.y;rw[eT (j5.1 u).1] at n;rw[hn] at n g;exact⟨n,g⟩
section
variable {S:xl}{a0 a1:O_}{c0 c1:Nat}
def wA (w:E)(nm:F_)(qr:Qx w a0 S.n0 S.f0)(ro:Qq w a1 S.n1 S.f1)(hn0:S.n0<=1048576)(hn1:S.n1<=1048576)(ZR:∀i,i<S.n1->aP (S.f1 i))(hT:Tab w)(aq:Tab2 w)(hP:Pow w):Calls Tryz.prog 45 #[ZJ #[Y a0 S.n0 c0,Y a1 S.n1 c1],U nm] w λe w'=>∃a c R rv,e=ZI (.tuple #[ZJ #[Y a (ZV R) c],rv])/\DRow w' (A (z w)) (Y a (ZV R) c) R/\R.map (·.1)=bk S (bE S nm).1/\oJ w w' (bE S nm).2 rv/\Below (A (z w)) w w':=by
 obtain⟨u,hW⟩:∃W:E,((w.alloc (N #[Y a0 S.n0 c0,Y a1 S.n1 c1] 29)).alloc (N #[Y Z 0 0] 25)).alloc (N #[J I 0,U ⟨#[]⟩,Y Z 0 0] 88)=W:=⟨_,rfl⟩
 obtain⟨A0,-,kA,kR,hz0⟩:=nb3 hW;have HW:=ae hW;have HB:=ae (Do (c0:=c0) (c1:=c1) u nm (qr.aa A0 ly) (ro.aa A0 ly) hn0 hn1 ZR (hT.aa A0 hT.1) (aq.aa A0 aq.1) (hP.aa A0 ly));clear hW;obtain⟨X,ZS,ZX⟩:=mh S nm;have JH:=ae ZR;obtain⟨bb,ld⟩:∃bb,bb=bE S nm:=⟨_,rfl⟩
 rw[<-ld] at HB X ZS ZX ⊢;clear qr ro ZR hT aq hP ld;obtain⟨b,r⟩:=bb;simp only at X ZS ZX ⊢;have JM:=ae X;have mv:=ae ZX;clear X ZX;obtain⟨JN,hi,Id,Hx,JQ⟩:=NO gC;go_enter func45,ntmps45;go_wp2_with fail;rw[HW.i];clear HW;refine HB.P ?_;rintro e w1⟨wb,mdv,rv,Bk,rfl,ZL,⟨a,c,rfl,o⟩,ZO,P⟩;obtain⟨G,V,M⟩:=Dr ZL mv P;obtain⟨am,cm,rfl⟩:=bM M.row;have DQ:A (z u)<=A (z wb):=Bk.size;obtain⟨W1,O⟩:∃W:E,w1.alloc (N #[J I r.M,U r.H,Y a (ZV r.R) c] 88)=W:=⟨_,rfl⟩
 obtain⟨A1,k1,-⟩:=nb1 O;have fd:=ae O;clear O;have O1:=ae (J_ o A1 ly);have P1:=ae (M.keep A1.size λj m=>A1.p j m);have B1:=ae (ZO.k (A1.P ZO.size));have JG:A (z u)<=A (z w1):=ZO.size;obtain⟨B,n9⟩:∃B,B=A (z wb):=⟨_,rfl⟩
 rw[<-n9] at P1 DQ;clear Bk ZL o ZO P M n9 HB mv;obtain⟨L,hL⟩:∃L,L=ZV b:=⟨_,rfl⟩
 have HL:=ae hL;rw[<-hL] at ZS P1 ⊢;clear hL;go_wp2;rw[fd.i];clear fd;generalize (A (z w1))=rb at k1 JG ⊢;clear A1;go_loopw [21] (λi wr=>∃k:Nat,k<=L/\i=J I k/\Hid (Plc B S wr b G V k (Y am L cm))/\Hid (wr.heap[rb]?=Q (N #[J I r.M,U r.H,Y a (ZV r.R) c] 88 (0,0)))/\Hid (ZW wr (A (z u)) 9 1 (Y a (ZV r.R) c) (ZV r.R) (bO r.R))/\Hid (Below (A (z u)) u wr)) (λi _=>L - (intOf i).toNat);case atStart=>exact⟨0,by omega,rfl,P1,k1,O1,B1⟩
 case round =>
  clear P1 k1 O1 B1;obtain⟨k,hk,rfl,P2,k2,O2,B2⟩:=hrel;by_cases JI:k<L
  ·obtain⟨y,hy⟩:∃y,b[k]?=Q y:=⟨_,gq (by rw[<-HL.i];exact JI)⟩
   obtain⟨hyB,⟨act,ZN,-⟩,-⟩:=P2.ent k y hy;have f:=P2.row;rw[<-HL.i] at f;obtain⟨gm,JJ,e⟩:=dr f (by omega);simp only[IN,TX] at e;obtain⟨rfl,rfl⟩:=e;have cp:wr.cell? (T gm k Z)=Q (.pointer (Q (T (G y.e) 0 Z))):=(bA f (by rw[jW,LR,hy];rfl)).1;have Fk:=(cV f).2;obtain⟨hyl,-,-,-,-,-,-,-,y7,yf⟩:=ZN.y;have yf7:=yf 7;have P3:=ae (P2.next hy);have k3:Hid ((ZU wr (T (G y.e) 7 Z) (J I (k:Int))).heap[rb]?=Q (N #[J I r.M,U r.H,Y a (ZV r.R) c] 88 (0,0))):=(qh _ _ _ _ (λe=>by have:=ar (e ▸ k2.i) ZN;exact absurd this (by decide))).k k2;have O3:=ae (aB O2 (λe=>mH O2 ZN e (by decide)) 7 (J I (k:Int)));have B3:=ae (B2.setCell (p:=(T (G y.e) 7 Z)) (by show (A (z u))<=G y.e;omega) (J I (k:Int)));clear hy yf ZN f;go_wp2;exact⟨⟨k+1,by omega,by go_num,P3,k3,O3,B3⟩,by simp[intOf];omega⟩
  ·have e:k=L:=by omega
   subst e;obtain⟨s,ZQ⟩:∃W:E,wr.alloc (N #[Y Z 0 0] 25)=W:=⟨_,rfl⟩
   obtain⟨A3,k3,hz3⟩:=nb1 ZQ;have ex:=ae ZQ;clear ZQ;go_wp2;rw[ex.i];clear ex;obtain⟨g,JP⟩:∃g,g=wr:=⟨_,rfl⟩
   subst JP;go_loopw [33] (λi wq=>∃(q:Nat) (l:O_) (c5:Nat) (R:List DR),q<=k/\i=J I q/\(ZV R)=q/\Hid (R.map (·.1)=(b.take q).map (bo S b))/\Hid (DRow wq (A (z s)) (Y l q c5) R)/\Hid (wq.heap[A (z g)]?=Q (N #[Y l q c5] 25 (0,0)))/\Hid (zt (A (z g)) s wq)) (λi _=>k - (intOf i).toNat);case atStart=>exact⟨0,Z,0,[],by omega,rfl,rfl,rfl,jK _ _,k3,zt.refl _ _⟩
   case round =>
    obtain⟨q,l,c5,R,hq,rfl,D,ph,D4,k4,Y4⟩:=hrel;have JO:A (z s)<=A (z wr):=Y4.size;have Fm:A (z g)<A (z s):=by omega
    by_cases GS:q<k
    ·obtain⟨x,hx⟩:∃x,b[q]?=Q x:=⟨_,gq (by rw[<-HL.i];exact GS)⟩
     have P5:Hid (Plc B S wr b G V (ZV b) (Y am k cm)):=by have h:=P2.keep (W':=wr) (by omega) λj m=>(Y4.p j (by omega) (by omega)).k (A3.p j m);rw[<-HL.i];exact h
     have f:=P5.row;rw[<-HL.i] at f;obtain⟨gm,JJ,e⟩:=dr f (by omega);simp only[IN,TX] at e;obtain⟨rfl,rfl⟩:=e;have cp:wr.cell? (T gm q Z)=Q (.pointer (Q (T (G x.e) 0 Z))):=(bA f (by rw[jW,LR,hx];rfl)).1;have Fk:=(cV f).2;have JL:Hid (Calls Tryz.prog 76 #[.pointer (Q (T (G x.e) 0 Z))] wr.drew λr w'=>∃va vl,r=ZI (ZJ #[U x.e,J I x.L,J I x.M,U x.H,va,vl])/\DSub w' wr.drew.heap.size (bo S b x,va,vl)/\Below wr.drew.heap.size wr.drew w'):=(P5.keep (W':=wr.drew) ly λj _=>rfl).settled JM JH hx;have HX:=ae hx;have SQ:Hid (∀V:E,(∀j,j<A (z wr)->Q j≠(Value.slice l q c5).ownBlock->V.heap[j]?=wr.heap[j]?)->V.heap[A (z g)]?=Q (N #[Y l q c5] 25 (0,0))/\V.cell? (T (A (z g)) 0 Z)=Q (Y l q c5)):=λV hV=>by have h1:=(hV (A (z g)) (ah k4) λe=>by have h:=D4.u;rw[D] at h;have:=(h.lt _ e.c).1;omega).k k4;exact⟨h1,by simp[World.cell?,h1]⟩
     clear f hx;go_wp2_with fail;refine aI (λV=>V.heap[A (z g)]?=Q (N #[Y l q c5] 25 (0,0))/\V.cell? (T (A (z g)) 0 Z)=Q (Y l q c5)) 7 (by as_aux_lemma=>kernel_rfl) ?_;have HS:=ae (SQ wr.drew (λj m _=>rfl));iterate 3
      refine aO 0 (v:=?_) rfl rfl (by as_aux_lemma=>kernel_rfl) (λ_ _ _ h=>h) rfl ?_ HS ?_;rotate_left
      ·(rintro wz⟨s0,s1⟩;go_simp)
       (try with_reducible rfl)
      (try simp only[p_,z_])
     refine ai (i:=3) rfl (by as_aux_lemma=>kernel_rfl) λK n=>?_;go_simp;go_at_call 76;refine JL.P ?_;rintro e C⟨va,vl,rfl,ZP,ZY⟩;have bt:C.ownsRow (A (z wr)) 102 3 va (bP S x) (bZ (S.f1 x.tg).q (bP S x)):=ZP.q;have la:C.ownsRow (A (z wr)) 65 4 vl (ZV x.D) (cy (lkF b x.D) (ZV x.D)):=ZP.az;obtain⟨H,sm⟩:∃H,H=bP S x:=⟨_,rfl⟩
     obtain⟨ZT,At⟩:∃ZT,ZT=ZV x.D:=⟨_,rfl⟩
     rw[<-sm] at bt;rw[<-At] at la;obtain⟨ag,cg,rfl⟩:=bM bt;obtain⟨al,cl,rfl⟩:=bM la;clear bt la;have B5:Hid (Below (A (z wr)) wr C):=⟨ZY.os,ZY.tape,ZY.output,ZY.size,ZY.p⟩
     have S5:Hid (DSub C (A (z wr)) (bo S b x,Y ag H cg,Y al ZT cl)):=ZP;clear ZP ZY sm At;refine n _ _ (λ_=>SQ _ (λj m _=>B5.p j m)) ?_;clear n K HS
     (try simp only[p_,z_])
     refine ai (i:=4) rfl (by as_aux_lemma=>kernel_rfl) λK n=>?_;go_simp;have AB:=ae ((BS C).alloc ly (N #[U x.e,J I x.L,J I x.M,U x.H,Y ag H cg,Y al ZT cl] 62));have B6:=ae (B5.k (AB.P B5.size));have D6:=ae (D4.aa B6 ly);have S6:=ae (S5.aa AB ly);have OW:Hid (World.ownsRow (C.alloc (N #[U x.e,J I x.L,J I x.M,U x.H,Y ag H cg,Y al ZT cl] 62)) (A (z s)) 62 6 (Y l q c5) q (R.flatMap ddV)):=by have h:=D6.u;rw[D] at h;exact h
     refine n _ _ (λ_=>SQ _ (λj m _=>B6.p j m)) ?_;clear n K
     (try simp only[p_,z_])
     refine ai (i:=5) rfl (by as_aux_lemma=>kernel_rfl) λK n=>?_;refine aU rfl (.tmp 38) (.tmp 41) 23 rfl (A (z s)) 62 JN (ZJ #[U ⟨#[]⟩,J I 0,J I 0,U ⟨#[]⟩,Y Z 0 0,Y Z 0 0]) 6 96 QB hi Id Hx JQ rfl (by decide) (Y l q c5) q (R.flatMap ddV) (by simp[Act.eval]) OW.i (T (A (z C)) 0 Z) 1 1 [U x.e,J I x.L,J I x.M,U x.H,Y ag H cg,Y al ZT cl] (by simp[Act.eval]) rfl (Ds C _ _ _ _ _ _ _) (by simp[Value.oneCell']) (by unfold maxLen;omega) (by omega) (by have:=B6.size;omega) ?_;intro v' w7 o t _;obtain⟨a7,c7,rfl⟩:=bM o;have n8:∀j,(Value.slice l q c5).ownBlock=Q j->A (z s)<=j:=λj e=>(OW.lt j e).1;have S7:=ae (SQ w7 (λj m Fd=>(t.p j (lj m B6.size) Fd).k (B6.p j m)));have D7:Hid (DRow w7 (A (z s)) (Y a7 (q+1) c7) (R++[(bo S b x,Y ag H cg,Y al ZT cl)])):=DRow.more D4 D6 JO S6 (by rw[D];exact o) t;have Y7:=ae ((Y4.k (zt.l B6)).grown t n8);clear o t n8;refine n _ _ (λ_=>S7) ?_;clear n K
     (try simp only[p_,z_])
     refine ai (i:=6) rfl (by as_aux_lemma=>kernel_rfl) λK n=>?_;go_simp;refine n _ _ (λ_=>S7) ?_;clear n K
     (try simp only[p_,z_])
     obtain⟨s7,t7⟩:=S7.i;have f7:w7.frozen? (T (A (z g)) 0 Z)=false:=by simp[World.frozen?,s7]
     have l7:=ah s7;have D8:=ae (D7.set (p:=(T (A (z g)) 0 Z)) (e:=25) (.inl Fm) (Y a7 (q+1) c7));have k8:Hid ((ZU w7 (T (A (z g)) 0 Z) (Y a7 (q+1) c7)).heap[A (z g)]?=Q (N #[Y a7 (q+1) c7] 25 (0,0))):=aw s7 _;have Y8:=ae (ce Y7 0 (Y a7 (q+1) c7));clear s7;refine ai (i:=7) rfl (by as_aux_lemma=>kernel_rfl) λK n=>?_;go_simp;refine n _ _ (λh=>absurd rfl h) ?_;clear n K
     (try simp only[p_,z_])
     refine ba (by as_aux_lemma=>kernel_rfl) ?_ _;go_wp2;refine⟨⟨q+1,a7,c7,_,by omega,by go_num,by rw[cM,D];rfl,?_,D8,k8,Y8⟩,by simp[intOf];omega⟩;show(R++[((bo S b x,Y ag H cg,Y al ZT cl):DR)]).map (·.1)=_;rw[ND,ph.i,V4,HX.i];simp
    ·have e:q=k:=by omega
     subst e;have hab2:A (z g)≠A (z w)+1:=by have:=B2.size;omega
     have hab3:A (z g)≠A (z w)+1+1:=by have:=B2.size;omega
     have hwA:=B2.size;have BW:Hid (Below (A (z u)) u wr):=B2.k ((A3.P (by omega)).k (Y4.aa (by omega) (by omega)));have ZM:=(BW.p (A (z w)+1) (by omega)).k kA;have th:=(BW.p (A (z w)+1+1) (by omega)).k kR;have DE:rb<A (z g):=ah k2.i;have ur:wr.heap[rb]?=_:=(Y4.p rb (by omega) (by omega)).k ((A3.p rb DE).k k2);have O4:Hid (ZW wr (A (z u)) 9 1 (Y a (ZV r.R) c) (ZV r.R) (bO r.R)):=b9 O2 λj m=>(Y4.p j (by have:=(O2.lt j m).2;omega) (by have:=(O2.lt j m).2;omega)).k (A3.p j (O2.lt j m).2);obtain⟨rl,r0,r1,r2,rf⟩:=dL th;have rf0:=rf 0;have rf1:=rf 1;have rf2:=rf 2;obtain⟨bl,b0,b1,b2,-⟩:=dL ur;have p0:wr.cell? (T (A (z w)+1) 0 Z)=Q (Y Z 0 0):=by simp[World.cell?,ZM]
     have pf0:wr.frozen? (T (A (z w)+1) 0 Z)=false:=by simp[World.frozen?,ZM]
     have pl:=ah ZM;have q0:wr.cell? (T (A (z g)) 0 Z)=Q (Y l q c5):=by simp[World.cell?,k4.i]
     have ql:=ah k4.i;clear rf ZM th ur;have OF:=ae (aH (aH (aH (aH O4 (R:=A (z w)+1) (j:=0) (by omega) (Y l q c5)) (R:=A (z w)+1+1) (j:=0) (by omega) (J I r.M)) (R:=A (z w)+1+1) (j:=1) (by omega) (U r.H)) (R:=A (z w)+1+1) (j:=2) (by omega) (Y a (ZV r.R) c));have DF:=ae ((((D4.set (p:=(T (A (z w)+1) 0 Z)) (e:=25) (.inl (by show (A (z w))+1<A (z s);omega)) (Y l q c5)).set (p:=(T (A (z w)+1+1) 0 Z)) (e:=25) (.inl (by show (A (z w))+1+1<A (z s);omega)) (J I r.M)).set (p:=(T (A (z w)+1+1) 1 Z)) (e:=25) (.inl (by show (A (z w))+1+1<A (z s);omega)) (U r.H)).set (p:=(T (A (z w)+1+1) 2 Z)) (e:=25) (.inl (by show (A (z w))+1+1<A (z s);omega)) (Y a (ZV r.R) c));have BF:=ae (((((A0.k (BW.P (by omega))).setCell (p:=(T (A (z w)+1) 0 Z)) (by show (A (z w))<=A (z w)+1;omega) (Y l q c5)).setCell (p:=(T (A (z w)+1+1) 0 Z)) (by show (A (z w))<=A (z w)+1+1;omega) (J I r.M)).setCell (p:=(T (A (z w)+1+1) 1 Z)) (by show (A (z w))<=A (z w)+1+1;omega) (U r.H)).setCell (p:=(T (A (z w)+1+1) 2 Z)) (by show (A (z w))<=A (z w)+1+1;omega) (Y a (ZV r.R) c));go_wp2_with fail;go_region;all_goals
      go_wp2;refine bp (v:=.tuple #[ZJ #[Y l q c5],ZJ #[J I r.M,U r.H,Y a (ZV r.R) c]]) (by simp[results,results45,go_sem,p0,r0,r1,r2]) rfl ?_;subst D;refine⟨l,c5,R,_,rfl,?_,?_,⟨a,c,rfl,?_⟩,?_⟩
      ·exact(DF.P (by omega)).aa br.drew ly
      ·rw[ph.i,NU (by rw[<-HL.i];exact p7 _)]
       rfl
      ·exact aE (J_ OF br.drew ly) (by omega)
      ·exact BF.drew
end
