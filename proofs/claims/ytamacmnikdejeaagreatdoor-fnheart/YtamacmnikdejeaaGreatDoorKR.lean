import Derived.Test.YtamacmnikdejeaaGreatDoorKH
import Derived.Test.YtamacmnikdejeaaGreatDoorKN
set_option maxRecDepth 100000
set_option maxHeartbeats 4000000
open Go renaming Addr.mk->Q,Value.slice->Y,Value.string->U,Value.int->J,Value.agg->ZG,Obj.cells->N,IntKind.i64->I,World->E,Value->ZB,Ending.returned->ZF,World.heap->A
open Option renaming none->Z,some->T
open Array renaming size->z
namespace Go.Proofs.YtamacmnikdejeaaGreatDoor.Vp
open Tryz RowKit Ca
variable {W:E}{S:Spc}{G:ByteArray->Nat}{V:ByteArray->ZB}{g f:List Ent}{o:ZB}
def yV (W:E)(B:Nat)(S:Spc)(x:Ent)(act:ZB):Prop:=∃a cap,act=Y a (bM S x) cap/\((bM S x=0/\a=Z/\cap=0)∨∃b off,a=T (Q b off Z)/\b<B/\RowIns W b off (bM S x) (S.f1 x.tg).u)
structure Plc (B:Nat)(S:Spc)(W:E)(made:List Ent)(G:ByteArray->Nat)(V:ByteArray->ZB)(k:Nat)(mdv:ZB):Prop where
 row:W.ownsRow B 134 1 mdv made.length (jr G made)
 ent:∀(i:Nat) (x:Ent),made[i]?=T x->B<=G x.e/\(∃act,EntBlk W (G x.e) x.e x.L x.M x.H act (V x.e) (if i<k then (i:Int) else 0)/\yV W B S x act)/\W.ownsRow B 200 5 (V x.e) x.looks.length (fc G x.looks)
 dist:made.Pairwise λx y=>G x.e≠G y.e
theorem AQ{r:E}(h:ku r S W g o)(C:g≠[]->SpcOk S)(ZR:g≠[]->∀b off n f,0<n->RowIns r b off n f->RowIns W b off n f):∃G V,Plc (z (A r)) S W g G V 0 o:=by
 obtain⟨G,V,h1,h2,B⟩:=h;refine⟨G,V,h1,λi x ZS=>?_,B⟩;have q:=J2 ZS;have p:g≠[]:=λe=>by rw[e] at q;exact absurd q nj
 obtain⟨⟨act,hb,l⟩,t,y⟩:=h2 x q;refine⟨t,⟨act,by simpa using hb,?_⟩,y⟩;unfold nA at l;split at l
 ·rename_i j;obtain⟨s,a,cap,rfl,u⟩:=l;have e:bM S x=(S.f1 x.tg).h:=by unfold bM;rw[j6 j]
  obtain⟨_,hv,_⟩:=bF ((C p).u x.tg s);obtain⟨b,off,rfl,m⟩:=u.resolve_left (by omega);exact⟨_,cap,by rw[e],.inr ⟨b,off,rfl,m.1,by rw[e];exact ZR p b off _ _ (by omega) m⟩⟩
 ·rename_i j;have e:bM S x=0:=by unfold bM;rw[eT j]
  exact⟨Z,0,by rw[e];exact l,.inl ⟨e,rfl,rfl⟩⟩
theorem Plc.next{B:Nat}{k:Nat}{y:Ent}(h:Plc B S W f G V k o)(t:f[k]?=T y):Plc B S (W.setCell (Q (G y.e) 7 Z) (J I (k:Int))) f G V (k+1) o:=by
 obtain⟨hyB,⟨acty,ZR,hay⟩,hry⟩:=h.ent k y t;have g:∀{size n:Nat} {e:TypeId} {v:ZB} {ZS:List ZB},W.ownsRow B e size v n ZS->e≠137->(W.setCell (Q (G y.e) 7 Z) (J I (k:Int))).ownsRow B e size v n ZS:=λH j=>aA H (λe=>lN H ZR e j) _ _;have r:∀{x:Ent} {act:ZB},yV W B S x act->yV (W.setCell (Q (G y.e) 7 Z) (J I (k:Int))) B S x act:=λ⟨a,cap,e,s⟩=>⟨a,cap,e,s.imp id λ⟨b,off,ZP,hb,p⟩=>⟨b,off,ZP,hb,p.setOther _ (by show G y.e≠b;omega) _⟩⟩
 refine⟨g h.row (by decide),λi x m=>?_,h.dist⟩;obtain⟨D,⟨act,hb,s⟩,p⟩:=h.ent i x m;refine⟨D,⟨act,?_,r s⟩,g p (by decide)⟩;by_cases e:i=k
 ·subst e;rw[t] at m;cases m
  rw[j6 (j4 _)];rw[eT (Nat.lt_irrefl _)] at hb;exact aw hb _
 {have j:G x.e≠G y.e:=(by obtain⟨hi,C⟩:=j5.1 m;obtain⟨u,ZQ⟩:=j5.1 t;rcases UR e with l|l;{have:=LC.1 h.dist i k hi u l;rw[C,ZQ] at this;exact this};{have:=LC.1 h.dist k i u hi l;rw[C,ZQ] at this;exact this.symm});rw[show(if i<k+1 then (i:Int) else 0)=if i<k then (i:Int) else 0 by by_cases q:i<k<;>simp[q,show i<k+1 ↔ i<k by omega]];exact(qh _ _ _ _ j).trans hb}
theorem Plc.keep{B:Nat}{W':E}{k:Nat}{n:ZB}(h:Plc B S W g G V k n)(hz:z (A W)<=z (A W'))(m:∀j,j<z (A W)->W'.heap[j]?=W.heap[j]?):Plc B S W' g G V k n:=by refine⟨bO h.row λj l=>m j (h.row.lt j l).2,λi x s=>?_,h.dist⟩;obtain⟨p,⟨act,hb,a,cap,e,q⟩,o⟩:=h.ent i x s;refine⟨p,⟨act,(m _ (ah hb)).trans hb,a,cap,e,q.imp id λ⟨b,off,r,hb,f⟩=>⟨b,off,r,hb,lj f.1 hz,λj l=>?_⟩⟩,bO o λj l=>m j (o.lt j l).2⟩;have e:=m b f.1;obtain⟨t,h1,h2⟩:=f.2 j l;exact⟨(cq (a:=(Q b _ Z)) e).trans t,(cq (a:=(Q b _ Z)) e).trans h1,(cq (a:=(Q b _ Z)) e).trans h2⟩
theorem Only.grown{b:Nat}{w l:E}{row:Option Nat}(h:Only b W w)(f:w.grownBy l row)(m:∀j,row=T j->z (A W)<=j):Only b W l:=by
 have i:∀k,k<z (A W)->l.heap[k]?=w.heap[k]?:=λk g=>f.block k (lj g h.size) λe=>by have:=m k e.symm;omega
 exact⟨f.os.trans h.os,f.tape.trans h.tape,f.output.trans h.output,nL h.size f.size,λk g o=>(i k g).trans (h.block k g o),λn t fz hb=>let ⟨cs',h'⟩:=h.ty n t fz hb;⟨cs',(i b (ar hb)).trans h'⟩⟩
theorem AR (w:E)(f g i m b l:ZB)(t:TypeId):∀j u,[f,g,i,m,b,l][j]?=T u->(w.alloc (N #[f,g,i,m,b,l] t)).cell? (((Q (z (A w)) 0 Z):Addr).add j)=T u:=by
 intro j u h;rw[addr_add];match j,h with
 |0,h=>simp at h;subst h;simp
 |1,h=>simp at h;subst h;simp
 |2,h=>simp at h;subst h;simp
 |3,h=>simp at h;subst h;simp
 |4,h=>simp at h;subst h;simp
 |5,h=>simp at h;subst h;simp
 |k+6,h=>simp at h
theorem Plc.settled{B:Nat}{s:ZB}(h:Plc B S W f G V f.length s)(j:PG S [] f)(H:∀i,i<S.n1->aX (S.f1 i)){i:Nat}{x:Ent}(n:f[i]?=T x):Calls Tryz.prog 76 #[.pointer (T (Q (G x.e) 0 Z))] W λr C=>∃t u,r=ZF (ZG #[U x.e,J I x.L,J I x.M,U x.H,t,u])/\DSub C (z (A W)) (a8 S f x,t,u)/\Below (z (A W)) W C:=by obtain⟨_,⟨act,hb,a,cap,rfl,ZO⟩,D⟩:=h.ent i x n;have p:=J2 n;have ZR:=Aa j H (a8 S f x) (PC p);refine vX S f G x W (G x.e) B a cap (V x.e) _ hb (ZO.imp id λ⟨b,off,e,_,q⟩=>⟨b,off,e,q⟩) ZR.1 (j.W x p).looks D λl ZP ZQ=>?_;obtain⟨y,ZS,hn,hlt⟩:=j.asked n ZP ZQ;obtain⟨_,⟨acty,o,_⟩,_⟩:=h.ent _ y ZS;obtain⟨g,-,-,-,-,-,-,-,m,-⟩:=o.D;rw[j6 (j5.1 ZS).1] at m;rw[hn] at m g;exact⟨m,g⟩
section
variable {S:Spc}{a0 a1:Option Addr}{c0 c1:Nat}
theorem uW (w:E)(nm:ByteArray)(ro:SlSource w a0 S.n0 S.f0)(ph:SlTarget w a1 S.n1 S.f1)(hn0:S.n0<=1048576)(hn1:S.n1<=1048576)(ZP:∀i,i<S.n1->aX (S.f1 i))(hT:Tab w)(la:Tab2 w)(hP:Pow w):Calls Tryz.prog 25 #[ZG #[Y a0 S.n0 c0,Y a1 S.n1 c1],U nm] w λe w'=>∃a c R rv,e=ZF (.tuple #[ZG #[Y a R.length c],rv])/\DRow w' (z (A w)) (Y a R.length c) R/\R.map (·.1)=aT S (aV S nm).1/\nF w w' (aV S nm).2 rv/\Below (z (A w)) w w':=by
 have P:=ae ((((BS w).alloc ly (N #[Y a0 S.n0 c0,Y a1 S.n1 c1] 29)).alloc (by simp) (N #[Y Z 0 0] 25)).alloc (by simp<;>omega) (N #[J I 0,U ⟨#[]⟩,Y Z 0 0] 37));have HB:=ae (AN (c0:=c0) (c1:=c1) (((w.alloc (N #[Y a0 S.n0 c0,Y a1 S.n1 c1] 29)).alloc (N #[Y Z 0 0] 25)).alloc (N #[J I 0,U ⟨#[]⟩,Y Z 0 0] 37)) nm (ro.aa P ly) (ph.aa P ly) hn0 hn1 ZP (hT.aa P hT.1) (la.aa P la.1) (hP.aa P ly));have kA:Hid ((((w.alloc (N #[Y a0 S.n0 c0,Y a1 S.n1 c1] 29)).alloc (N #[Y Z 0 0] 25)).alloc (N #[J I 0,U ⟨#[]⟩,Y Z 0 0] 37)).heap[z (A w)+1]?=T (N #[Y Z 0 0] 25 (0,0))):=by have h2:=gM (w.alloc (N #[Y a0 S.n0 c0,Y a1 S.n1 c1] 29)) (N #[Y Z 0 0] 25);rw[show(w.alloc (N #[Y a0 S.n0 c0,Y a1 S.n1 c1] 29)).heap.size=z (A w)+1 by simp] at h2;exact(((cM (z (A w)+2) _).alloc (by simp) _).block (z (A w)+1) (by omega)).trans h2
 have kR:Hid ((((w.alloc (N #[Y a0 S.n0 c0,Y a1 S.n1 c1] 29)).alloc (N #[Y Z 0 0] 25)).alloc (N #[J I 0,U ⟨#[]⟩,Y Z 0 0] 37)).heap[z (A w)+1+1]?=T (N #[J I 0,U ⟨#[]⟩,Y Z 0 0] 37 (0,0))):=by have h2:=gM ((w.alloc (N #[Y a0 S.n0 c0,Y a1 S.n1 c1] 29)).alloc (N #[Y Z 0 0] 25)) (N #[J I 0,U ⟨#[]⟩,Y Z 0 0] 37);rw[show((w.alloc (N #[Y a0 S.n0 c0,Y a1 S.n1 c1] 29)).alloc (N #[Y Z 0 0] 25)).heap.size=z (A w)+1+1 by simp] at h2;exact h2
 have Hg:(((w.alloc (N #[Y a0 S.n0 c0,Y a1 S.n1 c1] 29)).alloc (N #[Y Z 0 0] 25)).alloc (N #[J I 0,U ⟨#[]⟩,Y Z 0 0] 37)).heap.size=z (A w)+3:=by simp
 obtain⟨ZK,O,C⟩:=lD S nm;have GS:=ae ZP;obtain⟨bb,n9⟩:∃bb,bb=aV S nm:=⟨_,rfl⟩
 rw[<-n9] at HB ZK O C ⊢;clear ro ph ZP hT la hP n9;obtain⟨b,r⟩:=bb;simp only at ZK O C ⊢;have DQ:=ae ZK;have n8:=ae C;clear ZK C;obtain⟨DS,hi,Hh,He,Hj⟩:=KZ fR;go_enter func25,ntmps25;go_wp2_with fail;generalize World.alloc (World.alloc (World.alloc w _) _) _=ZR at P HB kA kR Hg ⊢;refine HB.mono ?_;rintro e w1 ⟨wb,mdv,rv,th,rfl,ZJ,⟨a,c,rfl,o⟩,X,ZI⟩;obtain⟨G,V,ZO⟩:=AQ ZJ n8 ZI;obtain⟨am,cm,rfl⟩:=bH ZO.row;have Bk:z (A ZR)<=z (A wb):=th.size;obtain⟨W1,ZN⟩:∃W:E,w1.alloc (N #[J I r.M,U r.H,Y a r.R.length c] 37)=W:=⟨_,rfl⟩
 obtain⟨A1,k1,-⟩:=nb1 ZN;have ld:=ae ZN;clear ZN;have O1:=ae (own_below o A1 ly);have P1:=ae (ZO.keep A1.size λj m=>A1.block j m);have B1:=ae (X.trans (A1.mono X.size));have Fd:z (A ZR)<=z (A w1):=X.size;obtain⟨B,sm⟩:∃B,B=z (A wb):=⟨_,rfl⟩
 rw[<-sm] at P1 Bk;clear th ZJ o X ZI ZO sm HB n8;obtain⟨L,hL⟩:∃L,L=b.length:=⟨_,rfl⟩
 have HL:=ae hL;rw[<-hL] at O P1 ⊢;clear hL;go_wp2;rw[ld.out];clear ld;generalize (z (A w1))=rb at k1 Fd ⊢;clear A1;go_loopw [21] (λi wr=>∃k:Nat,k<=L/\i=J I k/\Hid (Plc B S wr b G V k (Y am L cm))/\Hid (wr.heap[rb]?=T (N #[J I r.M,U r.H,Y a r.R.length c] 37 (0,0)))/\Hid (wr.ownsRow (z (A ZR)) 9 1 (Y a r.R.length c) r.R.length (bA r.R))/\Hid (Below (z (A ZR)) ZR wr)) (λi _=>L - (intOf i).toNat);case atStart=>exact⟨0,by omega,rfl,P1,k1,O1,B1⟩
 case round =>
  clear P1 k1 O1 B1;obtain⟨k,hk,rfl,P2,k2,O2,B2⟩:=hrel;by_cases Fm:k<L
  ·obtain⟨y,hy⟩:∃y,b[k]?=T y:=⟨_,gq (by rw[<-HL.out];exact Fm)⟩
   obtain⟨hyB,⟨act,ZM,-⟩,-⟩:=P2.ent k y hy;have f:=P2.row;rw[<-HL.out] at f;obtain⟨gm,Hd,e⟩:=df f (by omega);simp only[KK,PJ] at e;obtain⟨rfl,rfl⟩:=e;have cp:wr.cell? (Q gm k Z)=T (.pointer (T (Q (G y.e) 0 Z))):=(bk f (by rw[jr,KN,hy];rfl)).1;have Hk:=(cO f).2;obtain⟨hyl,-,-,-,-,-,-,-,y7,yf⟩:=ZM.D;have yf7:=yf 7;have P3:=ae (P2.next hy);have k3:Hid ((wr.setCell (Q (G y.e) 7 Z) (J I (k:Int))).heap[rb]?=T (N #[J I r.M,U r.H,Y a r.R.length c] 37 (0,0))):=(qh _ _ _ _ (λe=>by have:=ai (e ▸ k2.out) ZM;exact absurd this (by decide))).trans k2;have O3:=ae (aA O2 (λe=>lN O2 ZM e (by decide)) 7 (J I (k:Int)));have B3:=ae (B2.setCell (p:=(Q (G y.e) 7 Z)) (by show (z (A ZR))<=G y.e;omega) (J I (k:Int)));clear hy yf ZM f;go_wp2;exact⟨⟨k+1,by omega,by go_num,P3,k3,O3,B3⟩,by simp[intOf];omega⟩
  ·have e:k=L:=by omega
   subst e;obtain⟨s,M⟩:∃W:E,wr.alloc (N #[Y Z 0 0] 25)=W:=⟨_,rfl⟩
   obtain⟨A3,k3,hz3⟩:=nb1 M;have fd:=ae M;clear M;go_wp2;rw[fd.out];clear fd;obtain⟨g,Ha⟩:∃g,g=wr:=⟨_,rfl⟩
   subst Ha;go_loopw [33] (λi wq=>∃(q:Nat) (l:Option Addr) (c5:Nat) (R:List DR),q<=k/\i=J I q/\R.length=q/\Hid (R.map (·.1)=(b.take q).map (a8 S b))/\Hid (DRow wq (z (A s)) (Y l q c5) R)/\Hid (wq.heap[z (A g)]?=T (N #[Y l q c5] 25 (0,0)))/\Hid (Only (z (A g)) s wq)) (λi _=>k - (intOf i).toNat);case atStart=>exact⟨0,Z,0,[],by omega,rfl,rfl,rfl,ji _ _,k3,Only.refl _ _⟩
   case round =>
    obtain⟨q,l,c5,R,hq,rfl,H,n7,D4,k4,Y4⟩:=hrel;have Hc:z (A s)<=z (A wr):=Y4.size;have G8:z (A g)<z (A s):=by omega
    by_cases Hi:q<k
    ·obtain⟨x,hx⟩:∃x,b[q]?=T x:=⟨_,gq (by rw[<-HL.out];exact Hi)⟩
     have P5:Hid (Plc B S wr b G V b.length (Y am k cm)):=by have h:=P2.keep (W':=wr) (by omega) λj m=>(Y4.block j (by omega) (by omega)).trans (A3.block j m);rw[<-HL.out];exact h
     have f:=P5.row;rw[<-HL.out] at f;obtain⟨gm,Hd,e⟩:=df f (by omega);simp only[KK,PJ] at e;obtain⟨rfl,rfl⟩:=e;have cp:wr.cell? (Q gm q Z)=T (.pointer (T (Q (G x.e) 0 Z))):=(bk f (by rw[jr,KN,hx];rfl)).1;have Hk:=(cO f).2;have Hf:Hid (Calls Tryz.prog 76 #[.pointer (T (Q (G x.e) 0 Z))] wr.drew λr w'=>∃va vl,r=ZF (ZG #[U x.e,J I x.L,J I x.M,U x.H,va,vl])/\DSub w' wr.drew.heap.size (a8 S b x,va,vl)/\Below wr.drew.heap.size wr.drew w'):=(P5.keep (W':=wr.drew) ly λj _=>rfl).settled DQ GS hx;have HX:=ae hx;have SQ:Hid (∀V:E,(∀j,j<z (A wr)->T j≠(Value.slice l q c5).ownBlock->V.heap[j]?=wr.heap[j]?)->V.heap[z (A g)]?=T (N #[Y l q c5] 25 (0,0))/\V.cell? (Q (z (A g)) 0 Z)=T (Y l q c5)):=λV hV=>by have h1:=(hV (z (A g)) (ah k4) λe=>by have h:=D4.y;rw[H] at h;have:=(h.lt _ e.symm).1;omega).trans k4;exact⟨h1,by simp[World.cell?,h1]⟩
     clear f hx;go_wp2_with fail;refine aH (λV=>V.heap[z (A g)]?=T (N #[Y l q c5] 25 (0,0))/\V.cell? (Q (z (A g)) 0 Z)=T (Y l q c5)) 7 (by as_aux_lemma=>kernel_rfl) ?_;have HS:=ae (SQ wr.drew (λj m _=>rfl));iterate 3
      refine aK 0 (v:=?_) rfl rfl (by as_aux_lemma=>kernel_rfl) (λ_ _ _ h=>h) rfl ?_ HS ?_;rotate_left
      ·(rintro wz ⟨s0,s1⟩;go_simp)
       (try with_reducible rfl)
      (try simp only[Act.put,nzL])
     refine aj (i:=3) rfl (by as_aux_lemma=>kernel_rfl) λK n=>?_;go_simp;go_at_call 76;refine Hf.mono ?_;rintro e ZS ⟨va,vl,rfl,aq,u⟩;have ex:ZS.ownsRow (z (A wr)) 146 3 va (bM S x) (bV (S.f1 x.tg).u (bM S x)):=aq.u;have bt:ZS.ownsRow (z (A wr)) 129 4 vl x.looks.length (bY (lkF b x.looks) x.looks.length):=aq.aq;obtain⟨D,n6⟩:∃D,D=bM S x:=⟨_,rfl⟩
     obtain⟨ZQ,ur⟩:∃ZQ,ZQ=x.looks.length:=⟨_,rfl⟩
     rw[<-n6] at ex;rw[<-ur] at bt;obtain⟨ag,cg,rfl⟩:=bH ex;obtain⟨al,cl,rfl⟩:=bH bt;clear ex bt;have B5:Hid (Below (z (A wr)) wr ZS):=⟨u.os,u.tape,u.output,u.size,u.block⟩
     have S5:Hid (DSub ZS (z (A wr)) (a8 S b x,Y ag D cg,Y al ZQ cl)):=aq;clear aq u n6 ur;refine n _ _ (λ_=>SQ _ (λj m _=>B5.block j m)) ?_;clear n K HS
     (try simp only[Act.put,nzL])
     refine aj (i:=4) rfl (by as_aux_lemma=>kernel_rfl) λK n=>?_;go_simp;have AB:=ae ((BS ZS).alloc ly (N #[U x.e,J I x.L,J I x.M,U x.H,Y ag D cg,Y al ZQ cl] 46));have B6:=ae (B5.trans (AB.mono B5.size));have D6:=ae (D4.aa B6 ly);have S6:=ae (S5.aa AB ly);have OW:Hid (World.ownsRow (ZS.alloc (N #[U x.e,J I x.L,J I x.M,U x.H,Y ag D cg,Y al ZQ cl] 46)) (z (A s)) 46 6 (Y l q c5) q (R.flatMap ddV)):=by have h:=D6.y;rw[H] at h;exact h
     refine n _ _ (λ_=>SQ _ (λj m _=>B6.block j m)) ?_;clear n K
     (try simp only[Act.put,nzL])
     refine aj (i:=5) rfl (by as_aux_lemma=>kernel_rfl) λK n=>?_;refine aW rfl (.tmp 38) (.tmp 41) 23 rfl (z (A s)) 46 DS (ZG #[U ⟨#[]⟩,J I 0,J I 0,U ⟨#[]⟩,Y Z 0 0,Y Z 0 0]) 6 96 MU hi Hh He Hj rfl (by decide) (Y l q c5) q (R.flatMap ddV) (by simp[Act.eval]) OW.out (Q (z (A ZS)) 0 Z) 1 1 [U x.e,J I x.L,J I x.M,U x.H,Y ag D cg,Y al ZQ cl] (by simp[Act.eval]) rfl (AR ZS _ _ _ _ _ _ _) (by simp[Value.oneCell']) (by unfold maxLen;omega) (by omega) (by have:=B6.size;omega) ?_;intro v' w7 o t _;obtain⟨a7,c7,rfl⟩:=bH o;have mv:∀j,(Value.slice l q c5).ownBlock=T j->z (A s)<=j:=λj e=>(OW.lt j e).1;have S7:=ae (SQ w7 (λj m Fk=>(t.block j (lj m B6.size) Fk).trans (B6.block j m)));have D7:Hid (DRow w7 (z (A s)) (Y a7 (q+1) c7) (R++[(a8 S b x,Y ag D cg,Y al ZQ cl)])):=DRow.more D4 D6 Hc S6 (by rw[H];exact o) t;have Y7:=ae ((Y4.trans (Only.q B6)).grown t mv);clear o t mv;refine n _ _ (λ_=>S7) ?_;clear n K
     (try simp only[Act.put,nzL])
     refine aj (i:=6) rfl (by as_aux_lemma=>kernel_rfl) λK n=>?_;go_simp;refine n _ _ (λ_=>S7) ?_;clear n K
     (try simp only[Act.put,nzL])
     obtain⟨s7,t7⟩:=S7.out;have f7:w7.frozen? (Q (z (A g)) 0 Z)=false:=by simp[World.frozen?,s7]
     have l7:=ah s7;have D8:=ae (D7.set (p:=(Q (z (A g)) 0 Z)) (e:=25) (.inl G8) (Y a7 (q+1) c7));have k8:Hid ((w7.setCell (Q (z (A g)) 0 Z) (Y a7 (q+1) c7)).heap[z (A g)]?=T (N #[Y a7 (q+1) c7] 25 (0,0))):=aw s7 _;have Y8:=ae (ce Y7 0 (Y a7 (q+1) c7));clear s7;refine aj (i:=7) rfl (by as_aux_lemma=>kernel_rfl) λK n=>?_;go_simp;refine n _ _ (λh=>absurd rfl h) ?_;clear n K
     (try simp only[Act.put,nzL])
     refine be (by as_aux_lemma=>kernel_rfl) ?_ _;go_wp2;refine⟨⟨q+1,a7,c7,_,by omega,by go_num,by rw[eL,H];rfl,?_,D8,k8,Y8⟩,by simp[intOf];omega⟩;show(R++[((a8 S b x,Y ag D cg,Y al ZQ cl):DR)]).map (·.1)=_;rw[KI,n7.out,SN,HX.out];simp
    ·have e:q=k:=by omega
     subst e;have hab2:z (A g)≠z (A w)+1:=by have:=B2.size;omega
     have hab3:z (A g)≠z (A w)+1+1:=by have:=B2.size;omega
     have hwA:=B2.size;have BW:Hid (Below (z (A ZR)) ZR wr):=B2.trans ((A3.mono (by omega)).trans (Y4.aa (by omega) (by omega)));have ZL:=(BW.block (z (A w)+1) (by omega)).trans kA;have qr:=(BW.block (z (A w)+1+1) (by omega)).trans kR;have DE:rb<z (A g):=ah k2.out;have At:wr.heap[rb]?=_:=(Y4.block rb (by omega) (by omega)).trans ((A3.block rb DE).trans k2);have O4:Hid (wr.ownsRow (z (A ZR)) 9 1 (Y a r.R.length c) r.R.length (bA r.R)):=bO O2 λj m=>(Y4.block j (by have:=(O2.lt j m).2;omega) (by have:=(O2.lt j m).2;omega)).trans (A3.block j (O2.lt j m).2);obtain⟨rl,r0,r1,r2,rf⟩:=dC qr;have rf0:=rf 0;have rf1:=rf 1;have rf2:=rf 2;obtain⟨bl,b0,b1,b2,-⟩:=dC At;have p0:wr.cell? (Q (z (A w)+1) 0 Z)=T (Y Z 0 0):=by simp[World.cell?,ZL]
     have pf0:wr.frozen? (Q (z (A w)+1) 0 Z)=false:=by simp[World.frozen?,ZL]
     have pl:=ah ZL;have q0:wr.cell? (Q (z (A g)) 0 Z)=T (Y l q c5):=by simp[World.cell?,k4.out]
     have ql:=ah k4.out;clear rf ZL qr At;have OF:=ae (aE (aE (aE (aE O4 (R:=z (A w)+1) (j:=0) (by omega) (Y l q c5)) (R:=z (A w)+1+1) (j:=0) (by omega) (J I r.M)) (R:=z (A w)+1+1) (j:=1) (by omega) (U r.H)) (R:=z (A w)+1+1) (j:=2) (by omega) (Y a r.R.length c));have DF:=ae ((((D4.set (p:=(Q (z (A w)+1) 0 Z)) (e:=25) (.inl (by show (z (A w))+1<z (A s);omega)) (Y l q c5)).set (p:=(Q (z (A w)+1+1) 0 Z)) (e:=25) (.inl (by show (z (A w))+1+1<z (A s);omega)) (J I r.M)).set (p:=(Q (z (A w)+1+1) 1 Z)) (e:=25) (.inl (by show (z (A w))+1+1<z (A s);omega)) (U r.H)).set (p:=(Q (z (A w)+1+1) 2 Z)) (e:=25) (.inl (by show (z (A w))+1+1<z (A s);omega)) (Y a r.R.length c));have BF:=ae (((((P.trans (BW.mono (by omega))).setCell (p:=(Q (z (A w)+1) 0 Z)) (by show (z (A w))<=z (A w)+1;omega) (Y l q c5)).setCell (p:=(Q (z (A w)+1+1) 0 Z)) (by show (z (A w))<=z (A w)+1+1;omega) (J I r.M)).setCell (p:=(Q (z (A w)+1+1) 1 Z)) (by show (z (A w))<=z (A w)+1+1;omega) (U r.H)).setCell (p:=(Q (z (A w)+1+1) 2 Z)) (by show (z (A w))<=z (A w)+1+1;omega) (Y a r.R.length c));go_wp2_with fail;go_region;all_goals
      go_wp2;refine bp (v:=.tuple #[ZG #[Y l q c5],ZG #[J I r.M,U r.H,Y a r.R.length c]]) (by simp[results,results25,go_sem,p0,r0,r1,r2]) rfl ?_;subst H;refine⟨l,c5,R,_,rfl,?_,?_,⟨a,c,rfl,?_⟩,?_⟩
      ·exact(DF.mono (by omega)).aa br.drew ly
      ·rw[n7.out,LQ (by rw[<-HL.out];exact nX _)]
       rfl
      ·exact aF (own_below OF br.drew ly) (by omega)
      ·exact BF.drew
end
