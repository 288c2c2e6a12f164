import Derived.Test.YtcnilonhfpimnaaGreatDoorEK
import Derived.Test.YtcnilonhfpimnaaGreatDoorGY
set_option linter.all false
set_option maxRecDepth 100000
set_option maxHeartbeats 4000000
open Go renaming Addr.mk->T,Value.slice->Z,Value.string->U,Value.int->J,Value.bool->ZF,Value.agg->ZJ,Obj.cells->N,IntKind.i64->I,World->E,Value->ZB,TypeId->ZK,Ending.returned->ZI,World.heap->A,World.ownsRow->ZX,World.alloc->ZV,World.cell?->ZW,Proofs.Tryz.prog->Pg
open Option renaming none->Y,some->Q
open Bool renaming false->ZA,true->ZH
open Array renaming size->z
open List renaming length->ZU
namespace Go.Proofs.YtcnilonhfpimnaaGreatDoor.Vp
open Tryz RowKit
variable {w:E}{f size n b g:Nat}{e:ZK}{l:Lk}{i:ZB}
def CU (w:E):Calls Pg 152 #[Z Y 0 0] w λe b=>e=ZI (Z Y 0 0)/\b=w:=by have hnl:∀w:E,(binOp .eql 35 (Z Y 0 0) (Z Y 0 0)).run Pg w=.ok (ZF ZH) w:=λw=>Lib.run_eql_slice_nil w _ _ _ _ _ _ _ QE;go_enter func152,ntmps152;go_wp2;go_ret;exact⟨rfl,rfl⟩
def qQ (w:E):Calls Pg 118 #[ZJ #[Z Y 0 0]] w λe g=>e=ZI (ZJ #[Z Y 0 0])/\Below (z (A w)) w g:=by
 have b:=ae (((BS w).alloc ly (N #[Z Y 0 0] 37)).alloc (by simp) (N #[Z Y 0 0] 37));have f:ZW (ZV (ZV w (N #[Z Y 0 0] 37)) (N #[Z Y 0 0] 37)) (T (z (A w)+1) 0 Y)=Q (Z Y 0 0):=by simp
 have z0:(ZV (ZV w (N #[Z Y 0 0] 37)) (N #[Z Y 0 0] 37)).frozen? (T (z (A w)+1) 0 Y)=ZA:=by simp
 go_enter func118,ntmps118;go_wp2_with fail;refine(CU _).P ?_;rintro e w1⟨rfl,rfl⟩;go_wp2;exact bp (v:=ZJ #[Z Y 0 0]) (by simp[results,results118,go_sem,f]) rfl ⟨rfl,b⟩
def rT (a:O_)(n j_:Nat)(f:Nat->Ins)(w:E)(hn:(n:Int)<=1048576)(h:(n=0/\a=Y/\j_=0)\/∃b off,a=Q (T b off Y)/\Qj w b off n f):Calls Pg 118 #[ZJ #[Z a n j_]] w λe i=>∃v,e=ZI (ZJ #[v])/\i.ownsRow (z (A w)) 102 3 v n (bZ f n)/\Below (z (A w)) w i:=by
 rcases h with⟨rfl,rfl,rfl⟩|⟨b,off,rfl,j⟩
 {exact(qQ w).P λe i ⟨h1,h2⟩=>⟨_,h1,CP _ _ _ _,h2⟩};{exact(qe b off n j_ f w hn j).P λe i ⟨g,c,h1,h2,l⟩=>⟨_,h1,h2,l⟩}
def lkV (b:List k_)(f:List Lk):List ZB:=f.flatMap λl=>du (lkD b l)
def yC (b:List k_)(f:List Lk):cy (lkF b f) (ZU f)=lkV b f:=by
 unfold cy lkV;rw[show(List.range (ZU f)).map (lkF b f)=f.map (lkD b) from ?_,UW];refine UG λi=>?_;rw[L8,L8];rcases OT i (ZU f) with h|h;{rw[List.getElem?_range h,gq h];simp only[U7];rw[lA (gq h)]};{rw[NU h,NU (by simpa using h)];rfl}
def pN (b:List k_)(f:List Lk){k:Nat}(h:f[k]?=Q l):lkV b (f.take (k+1))=lkV b (f.take k)++du (lkD b l):=by rw[V4,h];simp[lkV]
def rU (w:E)(g f b i:ZB)(t:ZK):∀j u,[g,f,b,i][j]?=Q u->(ZV w (N #[g,f,b,i] t)).cell? (((T (z (A w)) 0 Y):Addr).add j)=Q u:=by
 intro j u h;rw[addr_add];match j,h with
 |0,h=>simp at h;subst h;simp
 |1,h=>simp at h;subst h;simp
 |2,h=>simp at h;subst h;simp
 |3,h=>simp at h;subst h;simp
 |k+4,h=>simp at h
def F9{c:Nat}{G:F_->Nat}{b:List Lk}(h:ZX w f 184 5 (Z (Q (T g 0 Y)) (ZU b) c) (ZU b) (fE G b)){k:Nat}(i:b[k]?=Q l)(j:Nat)(n:j<5){u:ZB}(m:(mD G l)[j]?=Q u):ZW w (T g (k*5+j) Y)=Q u:=
 (bA h (j:=k*5+j) (u:=u) (by rw[fE,cT (mD G) 5 (λ_=>rfl) b k j n l i];exact m)).1
def mH{t:ZK}{v:ZB}{i:List ZB}{j:Array ZB}(h:ZX w f e size v n i)(hb:w.heap[b]?=Q (N j t (0,0)))(k:v.ownBlock=Q b)(g:e≠t):False:=by obtain⟨_,_,cs',l⟩:=af h b k;exact g (ar l hb)
def DBox.grown{q:E}{o m g j l v:ZB}{s:List ZB}(h:DBox w b o m g j l i)(r:ZX w f e size v n s)(p:w.grownBy q v.ownBlock)(hb:b<f):DBox q b o m g j l i:=
 h.ad p.size (p.p b h.lt λe=>by have:=(r.lt b e.c).1;omega)
def og{r:E}{t:Nat}{v:ZB}{p:ZK}{m o:List ZB}(h:ZX w b e size v n m)(s:ZX w f p g i t o)(u:w.grownBy r i.ownBlock)(j:e≠p):ZX r b e size v n m:=
 b9 h λk l=>u.p k (h.lt k l).2 λq=>(fS h k l).ne (Ne.symm j) (fS s k q.c)
def xF (S:J_)(s:List k_)(G:F_->Nat)(x:k_)(w:E)(eb sm:Nat)(a:O_)(j_:Nat)(ex:ZB)(pl:Int)
  (hb:EntBlk w eb x.e x.L x.M x.H (Z a (bP S x) j_) ex pl)
  (L:(bP S x=0/\a=Y/\j_=0)\/∃b off,a=Q (T b off Y)/\Qj w b off (bP S x) (S.f1 x.tg).q)
  (hn:bP S x<=1048576) (V:ZU x.D<=200)
  (hr:ZX w sm 184 5 ex (ZU x.D) (fE G x.D))
  (hp:∀l∈x.D,l.ask=ZH->ZW w (T (G l.e) 7 Y)=Q (J I ((iw s l.e:Nat):Int))/\G l.e<z (A w)) :
  Calls Pg 76 #[.pointer (Q (T eb 0 Y))] w λr w'=>∃va vl,r=ZI (ZJ #[U x.e,J I x.L,J I x.M,U x.H,va,vl])/\DSub w' (z (A w)) (bo S s x,va,vl)/\Below (z (A w)) w w':=by
 obtain⟨Bk,c0,c1,c2,c3,c4,c5,ZM,-,-⟩:=hb.y;obtain⟨at_,ct,rfl⟩:=bM hr;obtain⟨n,aq⟩:∃n,n=bP S x:=⟨_,rfl⟩
 obtain⟨m,hm⟩:∃m,m=ZU x.D:=⟨_,rfl⟩
 have HN:=ae aq;have HM:=ae hm;have HR:=ae hr;have HP:=ae hp;rw[<-aq] at L hn c4;rw[<-hm] at V ZM;obtain⟨mv,hi,qr,ld,n8⟩:=NP lH;obtain⟨W0,P⟩:∃W:E,ZV (ZV w (N #[U ⟨#[]⟩,J I 0,J I 0,U ⟨#[]⟩,Z Y 0 0,Z Y 0 0] 62)) (N #[U x.e,J I x.L,J I x.M,U x.H,Z a n j_,Z Y 0 0] 62)=W:=⟨_,rfl⟩
 obtain⟨A0,-,-,hz0⟩:=nb2 P;have O:=ae P;clear P;have SS:=DJ w (U ⟨#[]⟩) (J I 0) (J I 0) (U ⟨#[]⟩) (Z Y 0 0) (Z Y 0 0) (U x.e) (J I x.L) (J I x.M) (U x.H) (Z a n j_) (Z Y 0 0) 62;have X0:=ae SS.1;have Y0:=ae SS.2;have HA:Hid ((n=0/\a=Y/\j_=0)\/∃b off,a=Q (T b off Y)/\Qj W0 b off n (S.f1 x.tg).q):=by cases O.i;exact L.imp id λ⟨b,off,e,h⟩=>⟨b,off,e,h.aa A0 ly⟩
 have CT:=ae ZM;clear L hr hp hb aq hm SS;go_enter func76,ntmps76;go_wp2_with fail;rw[O.i] at X0 Y0 ⊢;clear O;clear c0 c1 c2 c3 c4 c5 ZM;refine(rT a n j_ (S.f1 x.tg).q _ (by omega) HA).P ?_;rintro e w1⟨va,rfl,fd,ro⟩;obtain⟨B,ZY,rfl⟩:=bM fd;have D1:=ae ro;have O1:=ae (aE fd (show (z (A w))+2<=z (A W0) by omega));clear fd ro;have X1:=ae ((X0.aa D1 (by omega)).far (p:=(T (z (A w)+1) 4 Y)) (by simp) (Z B n ZY));have ZL:=ae (Y0.aa D1 (by omega));obtain⟨y4,z4⟩:=ZL.c4;have Y1:=ae (ZL.set4 (Z B n ZY));have O2:=ae (aH (R:=z (A w)+1) (j:=4) O1 (by omega) (Z B n ZY));have B2:=ae ((A0.k (D1.P A0.size)).setCell (p:=(T (z (A w)+1) 4 Y)) (BV _) (Z B n ZY));have n9:z (A w)+2<=(w1.setCell (T (z (A w)+1) 4 Y) (Z B n ZY)).heap.size:=by have:=D1.size;simp;omega
 have ZM:(w1.setCell (T (z (A w)+1) 4 Y) (Z B n ZY)).cell? (T eb 6 Y)=Q (Z at_ m ct):=(B2.O (p:=(T eb 6 Y)) Bk).k CT;have hmI:(m:Int)<=200:=by omega
 go_wp2;generalize World.setCell w1 _ _=W2 at X1 Y1 O2 B2 n9 ZM ⊢;clear y4 z4 ZL X0 Y0 O1 D1 HA ZM CT;go_loopw [23] (λi wr=>∃(k:Nat) (ZT:O_) (c5:Nat),k<=m/\i=J I k/\Hid (DBox wr (z (A w)) (U ⟨#[]⟩) (J I 0) (J I 0) (U ⟨#[]⟩) (Z Y 0 0) (Z Y 0 0))/\Hid (DBox wr (z (A w)+1) (U x.e) (J I x.L) (J I x.M) (U x.H) (Z B n ZY) (Z ZT k c5))/\Hid (ZX wr (z (A w)+2) 102 3 (Z B n ZY) n (bZ (S.f1 x.tg).q n))/\Hid (ZX wr (z (A w)+2) 65 4 (Z ZT k c5) k (lkV s (x.D.take k)))/\Hid (Below (z (A w)) w wr)) (λi _=>m - (intOf i).toNat);case atStart=>exact⟨0,Y,0,by omega,rfl,X1,Y1,O2,CP _ _ _ _,B2⟩
 case round =>
  clear X1 Y1 O2 B2 n9;obtain⟨k,ZT,c5,hk,rfl,ZS,H,O5,P5,B5⟩:=hrel;have hz5:z (A w)+2<=z (A wr):=by have:=H.lt;omega
  by_cases DE:k<m
  ·obtain⟨l,V⟩:∃l,x.D[k]?=Q l:=⟨_,gq (by rw[<-HM.i];exact DE)⟩
   obtain⟨g,ct',e⟩:=dr HR (by rw[<-HM.i];omega);simp only[IS,TX] at e;obtain⟨rfl,rfl⟩:=e;have ph:=(cV HR).2;have X:∀j,j<5->∀u,(mD G l)[j]?=Q u->ZW wr (T g (k*5+j) Y)=Q u:=λj hj u hu=>(B5.O (p:=(T g (k*5+j) Y)) ph).k (F9 HR V j hj hu);have f0:=X 0 (by omega) _ rfl;have f1:=X 1 (by omega) _ rfl;have f2:=X 2 (by omega) _ rfl;have f3:=X 3 (by omega) _ rfl;have f4:=X 4 (by omega) _ rfl;rw[show k*5+0=k*5 by omega] at f0;have HL:=ae V;have GS:Hid (l.ask=ZH->ZW w (T (G l.e) 7 Y)=Q (J I ((iw s l.e:Nat):Int))/\G l.e<z (A w)):=HP.i l (J1 V);clear X V;have hgr:g<z (A wr):=lj ph B5.size;obtain⟨ZO,la⟩:∃ZO,ZO=(if l.ask=ZH then Q ((T (G l.e) 0 Y):Addr) else Y):=⟨_,rfl⟩
   rw[<-la] at f4;have DQ:=ae la;clear la;obtain⟨o,ZQ⟩:∃W:E,ZV (ZV wr (N #[U l.e,ZF l.ask,ZF l.has,J I 0,.pointer ZO] 184)) (N #[U l.e,ZF l.ask,ZF l.has,J I 0] 65)=W:=⟨_,rfl⟩
   obtain⟨D6,-,-,hz6⟩:=nb2 ZQ;have ZR:=ae ZQ;clear ZQ;have X6:=ae (ZS.aa D6 ZS.lt);have Y6:=ae (H.aa D6 H.lt);have O6:=ae (K_ O5 D6 ly);have P6:=ae (K_ P5 D6 ly);have B6:=ae (B5.k (D6.P B5.size));have e4:ZW o (T (z (A wr)) 4 Y)=Q (.pointer ZO):=by cases ZR.i;simp[go_sem]
   have M:Hid (o.heap[z (A wr)+1]?=Q (N #[U l.e,ZF l.ask,ZF l.has,J I 0] 65 (0,0))):=by
    cases ZR.i
    have h2:=gM (ZV wr (N #[U l.e,ZF l.ask,ZF l.has,J I 0,.pointer ZO] 184)) (N #[U l.e,ZF l.ask,ZF l.has,J I 0] 65);rw[show(z (A (ZV wr (N #[U l.e,ZF l.ask,ZF l.has,J I 0,.pointer ZO] 184))))=z (A wr)+1 by simp] at h2;exact h2
   go_upto_if 30 with fail;rw[ZR.i];clear ZR;have ur:Hid (∀j,(Value.slice ZT k c5).ownBlock=Q j->z (A w)+2<=j/\j<z (A wr)):=λj e=>P5.lt j e;clear f0 f1 f2 f3 f4 ZS H O5 P5;cases hask:l.ask with
   |false =>
    have bt:Hid (du (lkD s l)=[U l.e,ZF ZA,ZF l.has,J I 0]):=by show _=_;simp[du,lkD,hask]
    have ZP:Hid (o.heap[z (A wr)+1]?=Q (N #[U l.e,ZF ZA,ZF l.has,J I 0] 65 (0,0))):=by rw[hask] at M;exact M
    have l0:ZW o (T (z (A wr)+1) 0 Y)=Q (U l.e):=by simp[World.cell?,ZP.i]
    have l1:ZW o (T (z (A wr)+1) 1 Y)=Q (ZF ZA):=by simp[World.cell?,ZP.i]
    have l2:ZW o (T (z (A wr)+1) 2 Y)=Q (ZF l.has):=by simp[World.cell?,ZP.i]
    have l3:ZW o (T (z (A wr)+1) 3 Y)=Q (J I 0):=by simp[World.cell?,ZP.i]
    obtain⟨d5,At⟩:=Y6.c5;have Fm:z (A w)+2<=z (A o):=by first|omega|(simp;omega)
    have D:=ae ((BS o).alloc ly (N #[U l.e,ZF ZA,ZF l.has,J I 0] 65));have XA:=ae (X6.aa D X6.lt);have YA:=ae (Y6.aa D Y6.lt);have OA:=ae (K_ O6 D ly);have C:=ae (K_ P6 D ly);have BA:=ae (B6.k (D.P B6.size));have Fk:z (A o)+1=z (A (ZV o (N #[U l.e,ZF ZA,ZF l.has,J I 0] 65))):=by simp
    go_wp2_with (at_builtin;refine DN _ rfl (.tmp 38) (.tmp 40) 60 rfl (z (A w)+2) 65 mv (ZJ #[U ⟨#[]⟩,ZF ZA,ZF ZA,J I 0]) 4 32 SV hi qr ld n8 rfl (by decide) (Z ZT k c5) k (lkV s (x.D.take k)) (by simp[Act.eval]) C.i (T (z (A o)) 0 Y) 1 1 [U l.e,ZF ZA,ZF l.has,J I 0] (by simp[Act.eval]) rfl (rU o _ _ _ _ _) (by simp[Value.oneCell']) (by unfold maxLen;omega) (by omega) (by simp;omega) ?_;intro v' w7 t f _;obtain⟨ZZ,y,rfl⟩:=bM t;rw[<-bt.i,<-pN s x.D HL.i] at t;have X8:=ae ((XA.grown C f (by omega)).far (p:=(T (z (A w)+1) 5 Y)) (by simp) (Z ZZ (k+1) y));have K:=ae (YA.grown C f (by omega));obtain⟨g5,Fd⟩:=K.c5;have Y8:=ae (K.set5 (Z ZZ (k+1) y));have O8:=ae (aH (R:=z (A w)+1) (j:=5) (og OA C f (by decide)) (by omega) (Z ZZ (k+1) y));have P8:=ae (aH (R:=z (A w)+1) (j:=5) t (by omega) (Z ZZ (k+1) y));have B8:=ae ((bg BA f BA.size (λj e=>by have:=(C.lt j e).1;omega)).setCell (p:=(T (z (A w)+1) 5 Y)) (BV _) (Z ZZ (k+1) y));clear t f);exact⟨⟨k+1,ZZ,y,by omega,by go_num,X8,Y8,O8,P8,B8⟩,by simp[intOf];omega⟩
   |true =>
    obtain⟨q7,gl⟩:=GS.i hask;obtain⟨q,hq⟩:∃q:Int,q=((iw s l.e:Nat):Int):=⟨_,rfl⟩
    have bt:Hid (du (lkD s l)=[U l.e,ZF ZH,ZF l.has,J I q]):=by show _=_;simp[du,lkD,hask,hq]
    rw[<-hq] at q7;clear hq;have g7:=(B6.O (p:=(T (G l.e) 7 Y)) gl).k q7;have th:ZO=Q (T (G l.e) 0 Y):=by rw[DQ.i,eT hask]
    subst th;rw[hask] at M;have k3:ZW o (T (z (A wr)+1) 3 Y)=Q (J I 0):=by simp[World.cell?,M.i]
    have kf3:o.frozen? (T (z (A wr)+1) 3 Y)=ZA:=by simp[World.frozen?,M.i]
    have ZN:Hid ((o.setCell (T (z (A wr)+1) 3 Y) (J I q)).heap[z (A wr)+1]?=Q (N #[U l.e,ZF ZH,ZF l.has,J I q] 65 (0,0))):=aw M _;have X7:=ae (X6.far (p:=(T (z (A wr)+1) 3 Y)) (by show (z (A wr))+1≠z (A w);omega) (J I q));have Y7:=ae (Y6.far (p:=(T (z (A wr)+1) 3 Y)) (by show (z (A wr))+1≠z (A w)+1;omega) (J I q));have O7:=ae (aB O6 (b:=z (A wr)+1) (λe=>mH O6 M e (by decide)) 3 (J I q));have P7:=ae (aB P6 (b:=z (A wr)+1) (λe=>by have:=(ur _ e).2;omega) 3 (J I q));have B7:=ae (B6.setCell (p:=(T (z (A wr)+1) 3 Y)) (by show (z (A w))<=z (A wr)+1;omega) (J I q));have l0:(o.setCell (T (z (A wr)+1) 3 Y) (J I q)).cell? (T (z (A wr)+1) 0 Y)=Q (U l.e):=by simp[World.cell?,ZN.i]
    have l1:(o.setCell (T (z (A wr)+1) 3 Y) (J I q)).cell? (T (z (A wr)+1) 1 Y)=Q (ZF ZH):=by simp[World.cell?,ZN.i]
    have l2:(o.setCell (T (z (A wr)+1) 3 Y) (J I q)).cell? (T (z (A wr)+1) 2 Y)=Q (ZF l.has):=by simp[World.cell?,ZN.i]
    have l3:(o.setCell (T (z (A wr)+1) 3 Y) (J I q)).cell? (T (z (A wr)+1) 3 Y)=Q (J I q):=by simp[World.cell?,ZN.i]
    obtain⟨d5,At⟩:=Y7.c5;have Fm:z (A w)+2<=(o.setCell (T (z (A wr)+1) 3 Y) (J I q)).heap.size:=by first|omega|(simp;omega)
    have D:=ae ((a8 (o.setCell (T (z (A wr)+1) 3 Y) (J I q)).heap.size (o.setCell (T (z (A wr)+1) 3 Y) (J I q))).alloc ly (N #[U l.e,ZF ZH,ZF l.has,J I q] 65));have XA:=ae (X7.aa D X7.lt);have YA:=ae (Y7.aa D Y7.lt);have OA:=ae (K_ O7 D ly);have C:=ae (K_ P7 D ly);have BA:=ae (B7.k (D.P B7.size));have Fk:(o.setCell (T (z (A wr)+1) 3 Y) (J I q)).heap.size+1=((o.setCell (T (z (A wr)+1) 3 Y) (J I q)).alloc (N #[U l.e,ZF ZH,ZF l.has,J I q] 65)).heap.size:=by simp
    go_wp2_with (at_builtin;refine DN _ rfl (.tmp 38) (.tmp 40) 60 rfl (z (A w)+2) 65 mv (ZJ #[U ⟨#[]⟩,ZF ZA,ZF ZA,J I 0]) 4 32 SV hi qr ld n8 rfl (by decide) (Z ZT k c5) k (lkV s (x.D.take k)) (by simp[Act.eval]) C.i ⟨(o.setCell (T (z (A wr)+1) 3 Y) (J I q)).heap.size,0,Y⟩ 1 1 [U l.e,ZF ZH,ZF l.has,J I q] (by simp[Act.eval]) rfl (rU (o.setCell (T (z (A wr)+1) 3 Y) (J I q)) _ _ _ _ _) (by simp[Value.oneCell']) (by unfold maxLen;omega) (by omega) (by simp;omega) ?_;intro v' w7 t f _;obtain⟨ZZ,y,rfl⟩:=bM t;rw[<-bt.i,<-pN s x.D HL.i] at t;have X8:=ae ((XA.grown C f (by omega)).far (p:=(T (z (A w)+1) 5 Y)) (by simp) (Z ZZ (k+1) y));have K:=ae (YA.grown C f (by omega));obtain⟨g5,Fd⟩:=K.c5;have Y8:=ae (K.set5 (Z ZZ (k+1) y));have O8:=ae (aH (R:=z (A w)+1) (j:=5) (og OA C f (by decide)) (by omega) (Z ZZ (k+1) y));have P8:=ae (aH (R:=z (A w)+1) (j:=5) t (by omega) (Z ZZ (k+1) y));have B8:=ae ((bg BA f BA.size (λj e=>by have:=(C.lt j e).1;omega)).setCell (p:=(T (z (A w)+1) 5 Y)) (BV _) (Z ZZ (k+1) y));clear t f);exact⟨⟨k+1,ZZ,y,by omega,by go_num,X8,Y8,O8,P8,B8⟩,by simp[intOf];omega⟩
  ·have e:k=m:=by omega
   subst e;obtain⟨e0,_⟩:=H.c0;obtain⟨e1,_⟩:=H.c1;obtain⟨e2,_⟩:=H.c2;obtain⟨e3,_⟩:=H.c3;obtain⟨e4,_⟩:=H.c4;obtain⟨e5,_⟩:=H.c5;obtain⟨r0,q0⟩:=ZS.c0;obtain⟨r1,q1⟩:=ZS.c1;obtain⟨r2,q2⟩:=ZS.c2;obtain⟨r3,q3⟩:=ZS.c3;obtain⟨r4,q4⟩:=ZS.c4;obtain⟨r5,q5⟩:=ZS.c5;have OF:=ae (aH (aH (aH (aH (aH (aH O5 (R:=z (A w)) (j:=0) (by omega) (U x.e)) (R:=z (A w)) (j:=1) (by omega) (J I x.L)) (R:=z (A w)) (j:=2) (by omega) (J I x.M)) (R:=z (A w)) (j:=3) (by omega) (U x.H)) (R:=z (A w)) (j:=4) (by omega) (Z B n ZY)) (R:=z (A w)) (j:=5) (by omega) (Z ZT k c5));have PF:=ae (aH (aH (aH (aH (aH (aH P5 (R:=z (A w)) (j:=0) (by omega) (U x.e)) (R:=z (A w)) (j:=1) (by omega) (J I x.L)) (R:=z (A w)) (j:=2) (by omega) (J I x.M)) (R:=z (A w)) (j:=3) (by omega) (U x.H)) (R:=z (A w)) (j:=4) (by omega) (Z B n ZY)) (R:=z (A w)) (j:=5) (by omega) (Z ZT k c5));have BF:=ae ((((((B5.setCell (p:=(T (z (A w)) 0 Y)) ly (U x.e)).setCell (p:=(T (z (A w)) 1 Y)) ly (J I x.L)).setCell (p:=(T (z (A w)) 2 Y)) ly (J I x.M)).setCell (p:=(T (z (A w)) 3 Y)) ly (U x.H)).setCell (p:=(T (z (A w)) 4 Y)) ly (Z B n ZY)).setCell (p:=(T (z (A w)) 5 Y)) ly (Z ZT k c5));go_wp2;refine bp (v:=ZJ #[U x.e,J I x.L,J I x.M,U x.H,Z B n ZY,Z ZT k c5]) (by simp[results,results76,go_sem,r0,r1,r2,r3,r4,r5]) rfl ⟨_,_,rfl,⟨?_,?_⟩,BF⟩;{show ZX _ (z (A w)) 102 3 (Z B n ZY) (bP S x) (bZ (S.f1 x.tg).q (bP S x));rw[<-HN.i];exact aE OF (by omega)};{show ZX _ (z (A w)) 65 4 (Z ZT k c5) (ZU x.D) (cy (lkF s x.D) (ZU x.D));rw[yC,<-HM.i];have h:=PF.i;rw[NV (by rw[<-HM.i];exact p7 _)] at h;exact aE h (by omega)}
