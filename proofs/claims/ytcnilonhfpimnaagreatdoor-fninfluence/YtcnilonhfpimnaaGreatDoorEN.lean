import Derived.Test.YtcnilonhfpimnaaGreatDoorEK
import Derived.Test.YtcnilonhfpimnaaGreatDoorGY
set_option linter.all false
set_option maxRecDepth 100000
set_option maxHeartbeats 4000000
open Go renaming Addr.mk->T,Value.slice->Y,Value.string->U,Value.int->J,Value.bool->ZF,Value.agg->ZJ,Obj.cells->N,IntKind.i64->I,World->E,Value->ZB,TypeId->ZK,Ending.returned->ZI,World.heap->A,World.ownsRow->ZY,World.alloc->ZW,World.cell?->ZX,World.setCell->ZU,Proofs.Tryz.prog->Pg,Calls->Qw
open Option renaming none->Z,some->Q
open Bool renaming false->ZA,true->ZH
open Array renaming size->z
open List renaming length->ZV
namespace Go.Proofs.YtcnilonhfpimnaaGreatDoor.Vp
open Tryz RowKit
variable {w:E}{f size n b g:Nat}{e:ZK}{l:Lk}{p:ZB}
def CU (w:E):Qw Pg 152 #[Y Z 0 0] w λe b=>e=ZI (Y Z 0 0)/\b=w:=by have hnl:∀w:E,(binOp .eql 35 (Y Z 0 0) (Y Z 0 0)).run Pg w=.ok (ZF ZH) w:=λw=>Lib.run_eql_slice_nil w _ _ _ _ _ _ _ QD;go_enter func152,ntmps152;go_wp2;go_ret;exact⟨rfl,rfl⟩
def qQ (w:E):Qw Pg 118 #[ZJ #[Y Z 0 0]] w λe g=>e=ZI (ZJ #[Y Z 0 0])/\Below (z (A w)) w g:=by
 have f:=ae (((BS w).alloc ly (N #[Y Z 0 0] 37)).alloc (by simp) (N #[Y Z 0 0] 37));have b:ZX (ZW (ZW w (N #[Y Z 0 0] 37)) (N #[Y Z 0 0] 37)) (T (z (A w)+1) 0 Z)=Q (Y Z 0 0):=by simp
 have z0:(ZW (ZW w (N #[Y Z 0 0] 37)) (N #[Y Z 0 0] 37)).frozen? (T (z (A w)+1) 0 Z)=ZA:=by simp
 go_enter func118,ntmps118;go_wp2_with fail;refine(CU _).P ?_;rintro e w1⟨rfl,rfl⟩;go_wp2;exact bp (v:=ZJ #[Y Z 0 0]) (by simp[results,results118,go_sem,b]) rfl ⟨rfl,f⟩
def rT (a:O_)(n j_:Nat)(f:Nat->Ins)(w:E)(hn:(n:Int)<=1048576)(h:(n=0/\a=Z/\j_=0)\/∃b off,a=Q (T b off Z)/\Q_ w b off n f):Qw Pg 118 #[ZJ #[Y a n j_]] w λe i=>∃v,e=ZI (ZJ #[v])/\i.ownsRow (z (A w)) 102 3 v n (bZ f n)/\Below (z (A w)) w i:=by
 rcases h with⟨rfl,rfl,rfl⟩|⟨b,off,rfl,l⟩
 {exact(qQ w).P λe i ⟨h1,h2⟩=>⟨_,h1,CP _ _ _ _,h2⟩};{exact(qe b off n j_ f w hn l).P λe i ⟨g,c,h1,h2,j⟩=>⟨_,h1,h2,j⟩}
def lkV (b:List k_)(f:List Lk):List ZB:=f.flatMap λl=>du (lkD b l)
def yC (b:List k_)(f:List Lk):cy (lkF b f) (ZV f)=lkV b f:=by
 unfold cy lkV;rw[show(List.range (ZV f)).map (lkF b f)=f.map (lkD b) from ?_,UW];refine UG λi=>?_;rw[LR,LR];rcases OR i (ZV f) with h|h;{rw[List.getElem?_range h,gq h];simp only[U7];rw[lA (gq h)]};{rw[NT h,NT (by simpa using h)];rfl}
def pN (b:List k_)(f:List Lk){k:Nat}(h:f[k]?=Q l):lkV b (f.take (k+1))=lkV b (f.take k)++du (lkD b l):=by rw[V4,h];simp[lkV]
def rU (w:E)(i b g f:ZB)(t:ZK):∀j u,[i,b,g,f][j]?=Q u->(ZW w (N #[i,b,g,f] t)).cell? (((T (z (A w)) 0 Z):Addr).add j)=Q u:=by
 intro j u h;rw[addr_add];match j,h with
 |0,h=>simp at h;subst h;simp
 |1,h=>simp at h;subst h;simp
 |2,h=>simp at h;subst h;simp
 |3,h=>simp at h;subst h;simp
 |k+4,h=>simp at h
def F9{c:Nat}{G:F_->Nat}{b:List Lk}(h:ZY w f 184 5 (Y (Q (T g 0 Z)) (ZV b) c) (ZV b) (fE G b)){k:Nat}(m:b[k]?=Q l)(j:Nat)(i:j<5){u:ZB}(n:(mD G l)[j]?=Q u):ZX w (T g (k*5+j) Z)=Q u:=
 (bA h (j:=k*5+j) (u:=u) (by rw[fE,cT (mD G) 5 (λ_=>rfl) b k j i l m];exact n)).1
def mH{t:ZK}{v:ZB}{i:List ZB}{j:Array ZB}(h:ZY w f e size v n i)(hb:w.heap[b]?=Q (N j t (0,0)))(k:v.ownBlock=Q b)(g:e≠t):False:=by obtain⟨_,_,cs',l⟩:=af h b k;exact g (ar l hb)
def DBox.grown{g:E}{j l o q m v:ZB}{r:List ZB}(h:DBox w b j l p o q m)(s:ZY w f e size v n r)(i:w.grownBy g v.ownBlock)(hb:b<f):DBox g b j l p o q m:=
 h.ad i.size (i.p b h.lt λe=>by have:=(s.lt b e.c).1;omega)
def og{j:E}{s:Nat}{v:ZB}{o:ZK}{l m:List ZB}(h:ZY w b e size v n l)(u:ZY w f o g p s m)(t:w.grownBy j p.ownBlock)(i:e≠o):ZY j b e size v n l:=
 b9 h λk r=>t.p k (h.lt k r).2 λq=>(fS h k r).ne (Ne.symm i) (fS u k q.c)
def xF (S:xl)(s:List k_)(G:F_->Nat)(x:k_)(w:E)(eb th:Nat)(a:O_)(j_:Nat)(fd:ZB)(pl:Int)
  (hb:EntBlk w eb x.e x.L x.M x.H (Y a (bP S x) j_) fd pl)
  (ZQ:(bP S x=0/\a=Z/\j_=0)\/∃b off,a=Q (T b off Z)/\Q_ w b off (bP S x) (S.f1 x.tg).q)
  (hn:bP S x<=1048576) (X:ZV x.D<=200)
  (hr:ZY w th 184 5 fd (ZV x.D) (fE G x.D))
  (hp:∀l∈x.D,l.ask=ZH->ZX w (T (G l.e) 7 Z)=Q (J I ((iw s l.e:Nat):Int))/\G l.e<z (A w)) :
  Qw Pg 76 #[.pointer (Q (T eb 0 Z))] w λr w'=>∃va vl,r=ZI (ZJ #[U x.e,J I x.L,J I x.M,U x.H,va,vl])/\DSub w' (z (A w)) (bo S s x,va,vl)/\Below (z (A w)) w w':=by
 obtain⟨Fm,c0,c1,c2,c3,c4,c5,ZL,-,-⟩:=hb.y;obtain⟨at_,ct,rfl⟩:=bM hr;obtain⟨n,aq⟩:∃n,n=bP S x:=⟨_,rfl⟩
 obtain⟨m,hm⟩:∃m,m=ZV x.D:=⟨_,rfl⟩
 have HN:=ae aq;have HM:=ae hm;have HR:=ae hr;have HP:=ae hp;rw[<-aq] at ZQ hn c4;rw[<-hm] at X ZL;obtain⟨sm,hi,n9,n8,qr⟩:=NO lH;obtain⟨W0,ZO⟩:∃W:E,ZW (ZW w (N #[U ⟨#[]⟩,J I 0,J I 0,U ⟨#[]⟩,Y Z 0 0,Y Z 0 0] 62)) (N #[U x.e,J I x.L,J I x.M,U x.H,Y a n j_,Y Z 0 0] 62)=W:=⟨_,rfl⟩
 obtain⟨A0,-,-,hz0⟩:=nb2 ZO;have L:=ae ZO;clear ZO;have SS:=DJ w (U ⟨#[]⟩) (J I 0) (J I 0) (U ⟨#[]⟩) (Y Z 0 0) (Y Z 0 0) (U x.e) (J I x.L) (J I x.M) (U x.H) (Y a n j_) (Y Z 0 0) 62;have X0:=ae SS.1;have Y0:=ae SS.2;have HA:Hid ((n=0/\a=Z/\j_=0)\/∃b off,a=Q (T b off Z)/\Q_ W0 b off n (S.f1 x.tg).q):=by cases L.i;exact ZQ.imp id λ⟨b,off,e,h⟩=>⟨b,off,e,h.aa A0 ly⟩
 have CT:=ae ZL;clear ZQ hr hp hb aq hm SS;go_enter func76,ntmps76;go_wp2_with fail;rw[L.i] at X0 Y0 ⊢;clear L;clear c0 c1 c2 c3 c4 c5 ZL;refine(rT a n j_ (S.f1 x.tg).q _ (by omega) HA).P ?_;rintro e w1⟨va,rfl,la,mv⟩;obtain⟨ZZ,y,rfl⟩:=bM la;have D1:=ae mv;have O1:=ae (aE la (show (z (A w))+2<=z (A W0) by omega));clear la mv;have X1:=ae ((X0.aa D1 (by omega)).far (p:=(T (z (A w)+1) 4 Z)) (by simp) (Y ZZ n y));have bt:=ae (Y0.aa D1 (by omega));obtain⟨y4,z4⟩:=bt.c4;have Y1:=ae (bt.set4 (Y ZZ n y));have O2:=ae (aH (R:=z (A w)+1) (j:=4) O1 (by omega) (Y ZZ n y));have B2:=ae ((A0.k (D1.P A0.size)).setCell (p:=(T (z (A w)+1) 4 Z)) (BV _) (Y ZZ n y));have ph:z (A w)+2<=z (A (ZU w1 (T (z (A w)+1) 4 Z) (Y ZZ n y))):=by have:=D1.size;simp;omega
 have ZL:ZX (ZU w1 (T (z (A w)+1) 4 Z) (Y ZZ n y)) (T eb 6 Z)=Q (Y at_ m ct):=(B2.O (p:=(T eb 6 Z)) Fm).k CT;have hmI:(m:Int)<=200:=by omega
 go_wp2;generalize World.setCell w1 _ _=W2 at X1 Y1 O2 B2 ph ZL ⊢;clear y4 z4 bt X0 Y0 O1 D1 HA ZL CT;go_loopw [23] (λi wr=>∃(k:Nat) (ZT:O_) (c5:Nat),k<=m/\i=J I k/\Hid (DBox wr (z (A w)) (U ⟨#[]⟩) (J I 0) (J I 0) (U ⟨#[]⟩) (Y Z 0 0) (Y Z 0 0))/\Hid (DBox wr (z (A w)+1) (U x.e) (J I x.L) (J I x.M) (U x.H) (Y ZZ n y) (Y ZT k c5))/\Hid (ZY wr (z (A w)+2) 102 3 (Y ZZ n y) n (bZ (S.f1 x.tg).q n))/\Hid (ZY wr (z (A w)+2) 65 4 (Y ZT k c5) k (lkV s (x.D.take k)))/\Hid (Below (z (A w)) w wr)) (λi _=>m - (intOf i).toNat);case atStart=>exact⟨0,Z,0,by omega,rfl,X1,Y1,O2,CP _ _ _ _,B2⟩
 case round =>
  clear X1 Y1 O2 B2 ph;obtain⟨k,ZT,c5,hk,rfl,ZS,H,O5,P5,B5⟩:=hrel;have hz5:z (A w)+2<=z (A wr):=by have:=H.lt;omega
  by_cases GS:k<m
  ·obtain⟨l,X⟩:∃l,x.D[k]?=Q l:=⟨_,gq (by rw[<-HM.i];exact GS)⟩
   obtain⟨g,ct',e⟩:=dr HR (by rw[<-HM.i];omega);simp only[IN,TX] at e;obtain⟨rfl,rfl⟩:=e;have ro:=(cV HR).2;have V:∀j,j<5->∀u,(mD G l)[j]?=Q u->ZX wr (T g (k*5+j) Z)=Q u:=λj hj u hu=>(B5.O (p:=(T g (k*5+j) Z)) ro).k (F9 HR X j hj hu);have f0:=V 0 (by omega) _ rfl;have f1:=V 1 (by omega) _ rfl;have f2:=V 2 (by omega) _ rfl;have f3:=V 3 (by omega) _ rfl;have f4:=V 4 (by omega) _ rfl;rw[show k*5+0=k*5 by omega] at f0;have HL:=ae X;have At:Hid (l.ask=ZH->ZX w (T (G l.e) 7 Z)=Q (J I ((iw s l.e:Nat):Int))/\G l.e<z (A w)):=HP.i l (I5 X);clear V X;have hgr:g<z (A wr):=lj ro B5.size;obtain⟨O,ld⟩:∃O,O=(if l.ask=ZH then Q ((T (G l.e) 0 Z):Addr) else Z):=⟨_,rfl⟩
   rw[<-ld] at f4;have DQ:=ae ld;clear ld;obtain⟨o,P⟩:∃W:E,ZW (ZW wr (N #[U l.e,ZF l.ask,ZF l.has,J I 0,.pointer O] 184)) (N #[U l.e,ZF l.ask,ZF l.has,J I 0] 65)=W:=⟨_,rfl⟩
   obtain⟨ZM,-,-,hz6⟩:=nb2 P;have ZR:=ae P;clear P;have X6:=ae (ZS.aa ZM ZS.lt);have Y6:=ae (H.aa ZM H.lt);have O6:=ae (J_ O5 ZM ly);have P6:=ae (J_ P5 ZM ly);have B6:=ae (B5.k (ZM.P B5.size));have e4:ZX o (T (z (A wr)) 4 Z)=Q (.pointer O):=by cases ZR.i;simp[go_sem]
   have M:Hid (o.heap[z (A wr)+1]?=Q (N #[U l.e,ZF l.ask,ZF l.has,J I 0] 65 (0,0))):=by
    cases ZR.i
    have h2:=gM (ZW wr (N #[U l.e,ZF l.ask,ZF l.has,J I 0,.pointer O] 184)) (N #[U l.e,ZF l.ask,ZF l.has,J I 0] 65);rw[show(z (A (ZW wr (N #[U l.e,ZF l.ask,ZF l.has,J I 0,.pointer O] 184))))=z (A wr)+1 by simp] at h2;exact h2
   go_upto_if 30 with fail;rw[ZR.i];clear ZR;have Fk:Hid (∀j,(Value.slice ZT k c5).ownBlock=Q j->z (A w)+2<=j/\j<z (A wr)):=λj e=>P5.lt j e;clear f0 f1 f2 f3 f4 ZS H O5 P5;cases hask:l.ask with
   |false =>
    have ex:Hid (du (lkD s l)=[U l.e,ZF ZA,ZF l.has,J I 0]):=by show _=_;simp[du,lkD,hask]
    have ZP:Hid (o.heap[z (A wr)+1]?=Q (N #[U l.e,ZF ZA,ZF l.has,J I 0] 65 (0,0))):=by rw[hask] at M;exact M
    have l0:ZX o (T (z (A wr)+1) 0 Z)=Q (U l.e):=by simp[World.cell?,ZP.i]
    have l1:ZX o (T (z (A wr)+1) 1 Z)=Q (ZF ZA):=by simp[World.cell?,ZP.i]
    have l2:ZX o (T (z (A wr)+1) 2 Z)=Q (ZF l.has):=by simp[World.cell?,ZP.i]
    have l3:ZX o (T (z (A wr)+1) 3 Z)=Q (J I 0):=by simp[World.cell?,ZP.i]
    obtain⟨d5,DE⟩:=Y6.c5;have Hx:z (A w)+2<=z (A o):=by first|omega|(simp;omega)
    have C:=ae ((BS o).alloc ly (N #[U l.e,ZF ZA,ZF l.has,J I 0] 65));have XA:=ae (X6.aa C X6.lt);have YA:=ae (Y6.aa C Y6.lt);have OA:=ae (J_ O6 C ly);have D:=ae (J_ P6 C ly);have BA:=ae (B6.k (C.P B6.size));have Bk:z (A o)+1=z (A (ZW o (N #[U l.e,ZF ZA,ZF l.has,J I 0] 65))):=by simp
    go_wp2_with (at_builtin;refine DN _ rfl (.tmp 38) (.tmp 40) 60 rfl (z (A w)+2) 65 sm (ZJ #[U ⟨#[]⟩,ZF ZA,ZF ZA,J I 0]) 4 32 SV hi n9 n8 qr rfl (by decide) (Y ZT k c5) k (lkV s (x.D.take k)) (by simp[Act.eval]) D.i (T (z (A o)) 0 Z) 1 1 [U l.e,ZF ZA,ZF l.has,J I 0] (by simp[Act.eval]) rfl (rU o _ _ _ _ _) (by simp[Value.oneCell']) (by unfold maxLen;omega) (by omega) (by simp;omega) ?_;intro v' w7 t f _;obtain⟨B,Z8,rfl⟩:=bM t;rw[<-ex.i,<-pN s x.D HL.i] at t;have X8:=ae ((XA.grown D f (by omega)).far (p:=(T (z (A w)+1) 5 Z)) (by simp) (Y B (k+1) Z8));have K:=ae (YA.grown D f (by omega));obtain⟨g5,Fd⟩:=K.c5;have Y8:=ae (K.set5 (Y B (k+1) Z8));have O8:=ae (aH (R:=z (A w)+1) (j:=5) (og OA D f (by decide)) (by omega) (Y B (k+1) Z8));have P8:=ae (aH (R:=z (A w)+1) (j:=5) t (by omega) (Y B (k+1) Z8));have B8:=ae ((bg BA f BA.size (λj e=>by have:=(D.lt j e).1;omega)).setCell (p:=(T (z (A w)+1) 5 Z)) (BV _) (Y B (k+1) Z8));clear t f);exact⟨⟨k+1,B,Z8,by omega,by go_num,X8,Y8,O8,P8,B8⟩,by simp[intOf];omega⟩
   |true =>
    obtain⟨q7,gl⟩:=At.i hask;obtain⟨q,hq⟩:∃q:Int,q=((iw s l.e:Nat):Int):=⟨_,rfl⟩
    have ex:Hid (du (lkD s l)=[U l.e,ZF ZH,ZF l.has,J I q]):=by show _=_;simp[du,lkD,hask,hq]
    rw[<-hq] at q7;clear hq;have g7:=(B6.O (p:=(T (G l.e) 7 Z)) gl).k q7;have ur:O=Q (T (G l.e) 0 Z):=by rw[DQ.i,eT hask]
    subst ur;rw[hask] at M;have k3:ZX o (T (z (A wr)+1) 3 Z)=Q (J I 0):=by simp[World.cell?,M.i]
    have kf3:o.frozen? (T (z (A wr)+1) 3 Z)=ZA:=by simp[World.frozen?,M.i]
    have ZN:Hid ((ZU o (T (z (A wr)+1) 3 Z) (J I q)).heap[z (A wr)+1]?=Q (N #[U l.e,ZF ZH,ZF l.has,J I q] 65 (0,0))):=aw M _;have X7:=ae (X6.far (p:=(T (z (A wr)+1) 3 Z)) (by show (z (A wr))+1≠z (A w);omega) (J I q));have Y7:=ae (Y6.far (p:=(T (z (A wr)+1) 3 Z)) (by show (z (A wr))+1≠z (A w)+1;omega) (J I q));have O7:=ae (aB O6 (b:=z (A wr)+1) (λe=>mH O6 M e (by decide)) 3 (J I q));have P7:=ae (aB P6 (b:=z (A wr)+1) (λe=>by have:=(Fk _ e).2;omega) 3 (J I q));have B7:=ae (B6.setCell (p:=(T (z (A wr)+1) 3 Z)) (by show (z (A w))<=z (A wr)+1;omega) (J I q));have l0:ZX (ZU o (T (z (A wr)+1) 3 Z) (J I q)) (T (z (A wr)+1) 0 Z)=Q (U l.e):=by simp[World.cell?,ZN.i]
    have l1:ZX (ZU o (T (z (A wr)+1) 3 Z) (J I q)) (T (z (A wr)+1) 1 Z)=Q (ZF ZH):=by simp[World.cell?,ZN.i]
    have l2:ZX (ZU o (T (z (A wr)+1) 3 Z) (J I q)) (T (z (A wr)+1) 2 Z)=Q (ZF l.has):=by simp[World.cell?,ZN.i]
    have l3:ZX (ZU o (T (z (A wr)+1) 3 Z) (J I q)) (T (z (A wr)+1) 3 Z)=Q (J I q):=by simp[World.cell?,ZN.i]
    obtain⟨d5,DE⟩:=Y7.c5;have Hx:z (A w)+2<=z (A (ZU o (T (z (A wr)+1) 3 Z) (J I q))):=by first|omega|(simp;omega)
    have C:=ae ((a8 (z (A (ZU o (T (z (A wr)+1) 3 Z) (J I q)))) (ZU o (T (z (A wr)+1) 3 Z) (J I q))).alloc ly (N #[U l.e,ZF ZH,ZF l.has,J I q] 65));have XA:=ae (X7.aa C X7.lt);have YA:=ae (Y7.aa C Y7.lt);have OA:=ae (J_ O7 C ly);have D:=ae (J_ P7 C ly);have BA:=ae (B7.k (C.P B7.size));have Bk:z (A (ZU o (T (z (A wr)+1) 3 Z) (J I q)))+1=z (A (ZW (ZU o (T (z (A wr)+1) 3 Z) (J I q)) (N #[U l.e,ZF ZH,ZF l.has,J I q] 65))):=by simp
    go_wp2_with (at_builtin;refine DN _ rfl (.tmp 38) (.tmp 40) 60 rfl (z (A w)+2) 65 sm (ZJ #[U ⟨#[]⟩,ZF ZA,ZF ZA,J I 0]) 4 32 SV hi n9 n8 qr rfl (by decide) (Y ZT k c5) k (lkV s (x.D.take k)) (by simp[Act.eval]) D.i ⟨z (A (ZU o (T (z (A wr)+1) 3 Z) (J I q))),0,Z⟩ 1 1 [U l.e,ZF ZH,ZF l.has,J I q] (by simp[Act.eval]) rfl (rU (ZU o (T (z (A wr)+1) 3 Z) (J I q)) _ _ _ _ _) (by simp[Value.oneCell']) (by unfold maxLen;omega) (by omega) (by simp;omega) ?_;intro v' w7 t f _;obtain⟨B,Z8,rfl⟩:=bM t;rw[<-ex.i,<-pN s x.D HL.i] at t;have X8:=ae ((XA.grown D f (by omega)).far (p:=(T (z (A w)+1) 5 Z)) (by simp) (Y B (k+1) Z8));have K:=ae (YA.grown D f (by omega));obtain⟨g5,Fd⟩:=K.c5;have Y8:=ae (K.set5 (Y B (k+1) Z8));have O8:=ae (aH (R:=z (A w)+1) (j:=5) (og OA D f (by decide)) (by omega) (Y B (k+1) Z8));have P8:=ae (aH (R:=z (A w)+1) (j:=5) t (by omega) (Y B (k+1) Z8));have B8:=ae ((bg BA f BA.size (λj e=>by have:=(D.lt j e).1;omega)).setCell (p:=(T (z (A w)+1) 5 Z)) (BV _) (Y B (k+1) Z8));clear t f);exact⟨⟨k+1,B,Z8,by omega,by go_num,X8,Y8,O8,P8,B8⟩,by simp[intOf];omega⟩
  ·have e:k=m:=by omega
   subst e;obtain⟨e0,_⟩:=H.c0;obtain⟨e1,_⟩:=H.c1;obtain⟨e2,_⟩:=H.c2;obtain⟨e3,_⟩:=H.c3;obtain⟨e4,_⟩:=H.c4;obtain⟨e5,_⟩:=H.c5;obtain⟨r0,q0⟩:=ZS.c0;obtain⟨r1,q1⟩:=ZS.c1;obtain⟨r2,q2⟩:=ZS.c2;obtain⟨r3,q3⟩:=ZS.c3;obtain⟨r4,q4⟩:=ZS.c4;obtain⟨r5,q5⟩:=ZS.c5;have OF:=ae (aH (aH (aH (aH (aH (aH O5 (R:=z (A w)) (j:=0) (by omega) (U x.e)) (R:=z (A w)) (j:=1) (by omega) (J I x.L)) (R:=z (A w)) (j:=2) (by omega) (J I x.M)) (R:=z (A w)) (j:=3) (by omega) (U x.H)) (R:=z (A w)) (j:=4) (by omega) (Y ZZ n y)) (R:=z (A w)) (j:=5) (by omega) (Y ZT k c5));have PF:=ae (aH (aH (aH (aH (aH (aH P5 (R:=z (A w)) (j:=0) (by omega) (U x.e)) (R:=z (A w)) (j:=1) (by omega) (J I x.L)) (R:=z (A w)) (j:=2) (by omega) (J I x.M)) (R:=z (A w)) (j:=3) (by omega) (U x.H)) (R:=z (A w)) (j:=4) (by omega) (Y ZZ n y)) (R:=z (A w)) (j:=5) (by omega) (Y ZT k c5));have BF:=ae ((((((B5.setCell (p:=(T (z (A w)) 0 Z)) ly (U x.e)).setCell (p:=(T (z (A w)) 1 Z)) ly (J I x.L)).setCell (p:=(T (z (A w)) 2 Z)) ly (J I x.M)).setCell (p:=(T (z (A w)) 3 Z)) ly (U x.H)).setCell (p:=(T (z (A w)) 4 Z)) ly (Y ZZ n y)).setCell (p:=(T (z (A w)) 5 Z)) ly (Y ZT k c5));go_wp2;refine bp (v:=ZJ #[U x.e,J I x.L,J I x.M,U x.H,Y ZZ n y,Y ZT k c5]) (by simp[results,results76,go_sem,r0,r1,r2,r3,r4,r5]) rfl ⟨_,_,rfl,⟨?_,?_⟩,BF⟩;{show World.ownsRow _ (z (A w)) 102 3 (Y ZZ n y) (bP S x) (bZ (S.f1 x.tg).q (bP S x));rw[<-HN.i];exact aE OF (by omega)};{show World.ownsRow _ (z (A w)) 65 4 (Y ZT k c5) (ZV x.D) (cy (lkF s x.D) (ZV x.D));rw[yC,<-HM.i];have h:=PF.i;rw[NU (by rw[<-HM.i];exact p7 _)] at h;exact aE h (by omega)}
