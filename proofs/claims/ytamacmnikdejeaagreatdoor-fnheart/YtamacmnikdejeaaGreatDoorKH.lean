import Derived.Test.YtamacmnikdejeaaGreatDoorKE
import Derived.Test.YtamacmnikdejeaaGreatDoorMW
set_option maxRecDepth 100000
set_option maxHeartbeats 4000000
open Go renaming Addr.mk->Q,Value.slice->Y,Value.string->U,Value.int->J,Value.bool->ZC,Value.agg->ZG,Obj.cells->N,IntKind.i64->I,World->E,Value->ZB,TypeId->ZH,Ending.returned->ZF,World.heap->A,World.cell?->B,Proofs.Tryz.prog->Pg
open Option renaming none->Z,some->T
open Bool renaming false->ZA,true->ZD
open Array renaming size->z
namespace Go.Proofs.YtamacmnikdejeaaGreatDoor.Vp
open Tryz RowKit
variable {w:E}{f size n b g:Nat}{e:ZH}{l:Lk}{m:ZB}
theorem Ax (w:E):Calls Pg 162 #[Y Z 0 0] w λe b=>e=ZF (Y Z 0 0)/\b=w:=by have hnl:∀w:E,(binOp .eql 41 (Y Z 0 0) (Y Z 0 0)).run Pg w=.ok (ZC ZD) w:=λw=>Lib.run_eql_slice_nil w _ _ _ _ _ _ _ MV;go_enter func162,ntmps162;go_wp2;go_ret;exact⟨rfl,rfl⟩
theorem pV (w:E):Calls Pg 128 #[ZG #[Y Z 0 0]] w λe g=>e=ZF (ZG #[Y Z 0 0])/\Below (z (A w)) w g:=by
 have b:=ae (((BS w).alloc ly (N #[Y Z 0 0] 43)).alloc (by simp) (N #[Y Z 0 0] 43));have f:((w.alloc (N #[Y Z 0 0] 43)).alloc (N #[Y Z 0 0] 43)).cell? (Q (z (A w)+1) 0 Z)=T (Y Z 0 0):=by simp
 have z0:((w.alloc (N #[Y Z 0 0] 43)).alloc (N #[Y Z 0 0] 43)).frozen? (Q (z (A w)+1) 0 Z)=ZA:=by simp
 go_enter func128,ntmps128;go_wp2_with fail;refine(Ax _).mono ?_;rintro e w1 ⟨rfl,rfl⟩;go_wp2;exact bp (v:=ZG #[Y Z 0 0]) (by simp[results,results128,go_sem,f]) rfl ⟨rfl,b⟩
theorem qU (a:Option Addr)(n cap:Nat)(f:Nat->Ins)(w:E)(hn:(n:Int)<=1048576)(h:(n=0/\a=Z/\cap=0)∨∃b off,a=T (Q b off Z)/\RowIns w b off n f):Calls Pg 128 #[ZG #[Y a n cap]] w λe i=>∃v,e=ZF (ZG #[v])/\i.ownsRow (z (A w)) 146 3 v n (bV f n)/\Below (z (A w)) w i:=by
 rcases h with ⟨rfl,rfl,rfl⟩|⟨b,off,rfl,j⟩
 {exact(pV w).mono λe i ⟨h1,h2⟩=>⟨_,h1,CL _ _ _ _,h2⟩};{exact(px b off n cap f w hn j).mono λe i ⟨g,c,h1,h2,l⟩=>⟨_,h1,h2,l⟩}
def lkV (b:List Ent)(f:List Lk):List ZB:=f.flatMap λl=>dl (lkD b l)
theorem xd (b:List Ent)(f:List Lk):bY (lkF b f) f.length=lkV b f:=by
 unfold bY lkV;rw[show(List.range f.length).map (lkF b f)=f.map (lkD b) from ?_,QT];refine QC λi=>?_;rw[KN,KN];rcases MG i f.length with h|h;{rw[List.getElem?_range h,gq h];simp only[QY];rw[km (gq h)]};{rw[LJ h,LJ (by simpa using h)];rfl}
theorem oY (b:List Ent)(f:List Lk){k:Nat}(h:f[k]?=T l):lkV b (f.take (k+1))=lkV b (f.take k)++dl (lkD b l):=by rw[SN,h];simp[lkV]
theorem qV (w:E)(f g i b:ZB)(t:ZH):∀j u,[f,g,i,b][j]?=T u->(w.alloc (N #[f,g,i,b] t)).cell? (((Q (z (A w)) 0 Z):Addr).add j)=T u:=by
 intro j u h;rw[addr_add];match j,h with
 |0,h=>simp at h;subst h;simp
 |1,h=>simp at h;subst h;simp
 |2,h=>simp at h;subst h;simp
 |3,h=>simp at h;subst h;simp
 |k+4,h=>simp at h
theorem DK{c:Nat}{G:ByteArray->Nat}{b:List Lk}(h:w.ownsRow f 200 5 (Y (T (Q g 0 Z)) b.length c) b.length (fc G b)){k:Nat}(i:b[k]?=T l)(j:Nat)(m:j<5){u:ZB}(n:(lJ G l)[j]?=T u):B w (Q g (k*5+j) Z)=T u :=
 (bk h (j:=k*5+j) (u:=u) (by rw[fc,cK (lJ G) 5 (λ_=>rfl) b k j m l i];exact n)).1
theorem lN{t:ZH}{v:ZB}{j:List ZB}{i:Array ZB}(h:w.ownsRow f e size v n j)(hb:w.heap[b]?=T (N i t (0,0)))(k:v.ownBlock=T b)(g:e≠t):False:=by obtain⟨_,_,cs',l⟩:=af h b k;exact g (ai l hb)
theorem DBox.grown{q:E}{i j o p l v:ZB}{s:List ZB}(h:DBox w b i j o m p l)(r:w.ownsRow f e size v n s)(g:w.grownBy q v.ownBlock)(hb:b<f):DBox q b i j o m p l :=
 h.ab g.size (g.block b h.lt λe=>by have:=(r.lt b e.symm).1;omega)
theorem mT{r:E}{t:Nat}{v:ZB}{j:ZH}{o p:List ZB}(h:w.ownsRow b e size v n o)(u:w.ownsRow f j g m t p)(s:w.grownBy r m.ownBlock)(l:e≠j):r.ownsRow b e size v n o :=
 bO h λk i=>s.block k (h.lt k i).2 λq=>(fD h k i).ne (Ne.symm l) (fD u k q.symm)
theorem vX (S:Spc)(s:List Ent)(G:ByteArray->Nat)(x:Ent)(w:E)(eb qr:Nat)(a:Option Addr)(cap:Nat)(fd:ZB)(pl:Int)
  (hb:EntBlk w eb x.e x.L x.M x.H (Y a (bM S x) cap) fd pl)
  (M:(bM S x=0/\a=Z/\cap=0)∨∃b off,a=T (Q b off Z)/\RowIns w b off (bM S x) (S.f1 x.tg).u)
  (hn:bM S x<=1048576) (X:x.looks.length<=200)
  (hr:w.ownsRow qr 200 5 fd x.looks.length (fc G x.looks))
  (hp:∀l∈x.looks,l.ask=ZD->B w (Q (G l.e) 7 Z)=T (J I ((gN s l.e:Nat):Int))/\G l.e<z (A w)) :
  Calls Pg 76 #[.pointer (T (Q eb 0 Z))] w λr w'=>∃va vl,r=ZF (ZG #[U x.e,J I x.L,J I x.M,U x.H,va,vl])/\DSub w' (z (A w)) (a8 S s x,va,vl)/\Below (z (A w)) w w':=by
 obtain⟨th,c0,c1,c2,c3,c4,c5,ZI,-,-⟩:=hb.D;obtain⟨at_,ct,rfl⟩:=bH hr;obtain⟨n,ZJ⟩:∃n,n=bM S x:=⟨_,rfl⟩
 obtain⟨m,hm⟩:∃m,m=x.looks.length:=⟨_,rfl⟩
 have HN:=ae ZJ;have HM:=ae hm;have HR:=ae hr;have HP:=ae hp;rw[<-ZJ] at M hn c4;rw[<-hm] at X ZI;obtain⟨ld,hi,n8,n7,ph⟩:=KZ kF;obtain⟨W0,ZN⟩:∃W:E,(w.alloc (N #[U ⟨#[]⟩,J I 0,J I 0,U ⟨#[]⟩,Y Z 0 0,Y Z 0 0] 46)).alloc (N #[U x.e,J I x.L,J I x.M,U x.H,Y a n cap,Y Z 0 0] 46)=W:=⟨_,rfl⟩
 obtain⟨A0,-,-,hz0⟩:=nb2 ZN;have L:=ae ZN;clear ZN;have SS:=Be w (U ⟨#[]⟩) (J I 0) (J I 0) (U ⟨#[]⟩) (Y Z 0 0) (Y Z 0 0) (U x.e) (J I x.L) (J I x.M) (U x.H) (Y a n cap) (Y Z 0 0) 46;have X0:=ae SS.1;have Y0:=ae SS.2;have HA:Hid ((n=0/\a=Z/\cap=0)∨∃b off,a=T (Q b off Z)/\RowIns W0 b off n (S.f1 x.tg).u):=by cases L.out;exact M.imp id λ⟨b,off,e,h⟩=>⟨b,off,e,h.aa A0 ly⟩
 have CT:=ae ZI;clear M hr hp hb ZJ hm SS;go_enter func76,ntmps76;go_wp2_with fail;rw[L.out] at X0 Y0 ⊢;clear L;clear c0 c1 c2 c3 c4 c5 ZI;refine(qU a n cap (S.f1 x.tg).u _ (by omega) HA).mono ?_;rintro e w1 ⟨va,rfl,la,n6⟩;obtain⟨ZT,ZS,rfl⟩:=bH la;have D1:=ae n6;have O1:=ae (aF la (show (z (A w))+2<=z (A W0) by omega));clear la n6;have X1:=ae ((X0.aa D1 (by omega)).far (p:=(Q (z (A w)+1) 4 Z)) (by simp) (Y ZT n ZS));have bt:=ae (Y0.aa D1 (by omega));obtain⟨y4,z4⟩:=bt.c4;have Y1:=ae (bt.set4 (Y ZT n ZS));have O2:=ae (aE (R:=z (A w)+1) (j:=4) O1 (by omega) (Y ZT n ZS));have B2:=ae ((A0.trans (D1.mono A0.size)).setCell (p:=(Q (z (A w)+1) 4 Z)) (D0 _) (Y ZT n ZS));have mv:z (A w)+2<=(w1.setCell (Q (z (A w)+1) 4 Z) (Y ZT n ZS)).heap.size:=by have:=D1.size;simp;omega
 have ZI:(w1.setCell (Q (z (A w)+1) 4 Z) (Y ZT n ZS)).cell? (Q eb 6 Z)=T (Y at_ m ct):=(B2.cell (p:=(Q eb 6 Z)) th).trans CT;have hmI:(m:Int)<=200:=by omega
 go_wp2;generalize World.setCell w1 _ _=W2 at X1 Y1 O2 B2 mv ZI ⊢;clear y4 z4 bt X0 Y0 O1 D1 HA ZI CT;go_loopw [23] (λi wr=>∃(k:Nat) (ZQ:Option Addr) (c5:Nat),k<=m/\i=J I k/\Hid (DBox wr (z (A w)) (U ⟨#[]⟩) (J I 0) (J I 0) (U ⟨#[]⟩) (Y Z 0 0) (Y Z 0 0))/\Hid (DBox wr (z (A w)+1) (U x.e) (J I x.L) (J I x.M) (U x.H) (Y ZT n ZS) (Y ZQ k c5))/\Hid (wr.ownsRow (z (A w)+2) 146 3 (Y ZT n ZS) n (bV (S.f1 x.tg).u n))/\Hid (wr.ownsRow (z (A w)+2) 129 4 (Y ZQ k c5) k (lkV s (x.looks.take k)))/\Hid (Below (z (A w)) w wr)) (λi _=>m - (intOf i).toNat);case atStart=>exact⟨0,Z,0,by omega,rfl,X1,Y1,O2,CL _ _ _ _,B2⟩
 case round =>
  clear X1 Y1 O2 B2 mv;obtain⟨k,ZQ,c5,hk,rfl,ZO,H,O5,P5,B5⟩:=hrel;have hz5:z (A w)+2<=z (A wr):=by have:=H.lt;omega
  by_cases ur:k<m
  ·obtain⟨l,X⟩:∃l,x.looks[k]?=T l:=⟨_,gq (by rw[<-HM.out];exact ur)⟩
   obtain⟨g,ct',e⟩:=df HR (by rw[<-HM.out];omega);simp only[KK,PJ] at e;obtain⟨rfl,rfl⟩:=e;have n9:=(cO HR).2;have V:∀j,j<5->∀u,(lJ G l)[j]?=T u->B wr (Q g (k*5+j) Z)=T u:=λj hj u hu=>(B5.cell (p:=(Q g (k*5+j) Z)) n9).trans (DK HR X j hj hu);have f0:=V 0 (by omega) _ rfl;have f1:=V 1 (by omega) _ rfl;have f2:=V 2 (by omega) _ rfl;have f3:=V 3 (by omega) _ rfl;have f4:=V 4 (by omega) _ rfl;rw[show k*5+0=k*5 by omega] at f0;have HL:=ae X;have Fd:Hid (l.ask=ZD->B w (Q (G l.e) 7 Z)=T (J I ((gN s l.e:Nat):Int))/\G l.e<z (A w)):=HP.out l (J2 X);clear V X;have hgr:g<z (A wr):=lj n9 B5.size;obtain⟨ZM,aq⟩:∃ZM,ZM=(if l.ask=ZD then T ((Q (G l.e) 0 Z):Addr) else Z):=⟨_,rfl⟩
   rw[<-aq] at f4;have DQ:=ae aq;clear aq;obtain⟨o,P⟩:∃W:E,(wr.alloc (N #[U l.e,ZC l.ask,ZC l.has,J I 0,.pointer ZM] 200)).alloc (N #[U l.e,ZC l.ask,ZC l.has,J I 0] 129)=W:=⟨_,rfl⟩
   obtain⟨D6,-,-,hz6⟩:=nb2 P;have ZP:=ae P;clear P;have X6:=ae (ZO.aa D6 ZO.lt);have Y6:=ae (H.aa D6 H.lt);have O6:=ae (own_below O5 D6 ly);have P6:=ae (own_below P5 D6 ly);have B6:=ae (B5.trans (D6.mono B5.size));have e4:B o (Q (z (A wr)) 4 Z)=T (.pointer ZM):=by cases ZP.out;simp[go_sem]
   have O:Hid (o.heap[z (A wr)+1]?=T (N #[U l.e,ZC l.ask,ZC l.has,J I 0] 129 (0,0))):=by
    cases ZP.out
    have h2:=gM (wr.alloc (N #[U l.e,ZC l.ask,ZC l.has,J I 0,.pointer ZM] 200)) (N #[U l.e,ZC l.ask,ZC l.has,J I 0] 129);rw[show(wr.alloc (N #[U l.e,ZC l.ask,ZC l.has,J I 0,.pointer ZM] 200)).heap.size=z (A wr)+1 by simp] at h2;exact h2
   go_upto_if 30 with fail;rw[ZP.out];clear ZP;have At:Hid (∀j,(Value.slice ZQ k c5).ownBlock=T j->z (A w)+2<=j/\j<z (A wr)):=λj e=>P5.lt j e;clear f0 f1 f2 f3 f4 ZO H O5 P5;cases hask:l.ask with
   |false =>
    have ex:Hid (dl (lkD s l)=[U l.e,ZC ZA,ZC l.has,J I 0]):=by show _=_;simp[dl,lkD,hask]
    have ZL:Hid (o.heap[z (A wr)+1]?=T (N #[U l.e,ZC ZA,ZC l.has,J I 0] 129 (0,0))):=by rw[hask] at O;exact O
    have l0:B o (Q (z (A wr)+1) 0 Z)=T (U l.e):=by simp[World.cell?,ZL.out]
    have l1:B o (Q (z (A wr)+1) 1 Z)=T (ZC ZA):=by simp[World.cell?,ZL.out]
    have l2:B o (Q (z (A wr)+1) 2 Z)=T (ZC l.has):=by simp[World.cell?,ZL.out]
    have l3:B o (Q (z (A wr)+1) 3 Z)=T (J I 0):=by simp[World.cell?,ZL.out]
    obtain⟨d5,sm⟩:=Y6.c5;have ro:z (A w)+2<=z (A o):=by first|omega|(simp;omega)
    have D:=ae ((BS o).alloc ly (N #[U l.e,ZC ZA,ZC l.has,J I 0] 129));have XA:=ae (X6.aa D X6.lt);have YA:=ae (Y6.aa D Y6.lt);have OA:=ae (own_below O6 D ly);have C:=ae (own_below P6 D ly);have BA:=ae (B6.trans (D.mono B6.size));have DS:z (A o)+1=(o.alloc (N #[U l.e,ZC ZA,ZC l.has,J I 0] 129)).heap.size:=by simp
    go_wp2_with (at_builtin;refine E4 _ rfl (.tmp 38) (.tmp 40) 44 rfl (z (A w)+2) 129 ld (ZG #[U ⟨#[]⟩,ZC ZA,ZC ZA,J I 0]) 4 32 OD hi n8 n7 ph rfl (by decide) (Y ZQ k c5) k (lkV s (x.looks.take k)) (by simp[Act.eval]) C.out (Q (z (A o)) 0 Z) 1 1 [U l.e,ZC ZA,ZC l.has,J I 0] (by simp[Act.eval]) rfl (qV o _ _ _ _ _) (by simp[Value.oneCell']) (by unfold maxLen;omega) (by omega) (by simp;omega) ?_;intro v' w7 t f _;obtain⟨y,ZR,rfl⟩:=bH t;rw[<-ex.out,<-oY s x.looks HL.out] at t;have X8:=ae ((XA.grown C f (by omega)).far (p:=(Q (z (A w)+1) 5 Z)) (by simp) (Y y (k+1) ZR));have K:=ae (YA.grown C f (by omega));obtain⟨g5,DE⟩:=K.c5;have Y8:=ae (K.set5 (Y y (k+1) ZR));have O8:=ae (aE (R:=z (A w)+1) (j:=5) (mT OA C f (by decide)) (by omega) (Y y (k+1) ZR));have P8:=ae (aE (R:=z (A w)+1) (j:=5) t (by omega) (Y y (k+1) ZR));have B8:=ae ((bg BA f BA.size (λj e=>by have:=(C.lt j e).1;omega)).setCell (p:=(Q (z (A w)+1) 5 Z)) (D0 _) (Y y (k+1) ZR));clear t f);exact⟨⟨k+1,y,ZR,by omega,by go_num,X8,Y8,O8,P8,B8⟩,by simp[intOf];omega⟩
   |true =>
    obtain⟨q7,gl⟩:=Fd.out hask;obtain⟨q,hq⟩:∃q:Int,q=((gN s l.e:Nat):Int):=⟨_,rfl⟩
    have ex:Hid (dl (lkD s l)=[U l.e,ZC ZD,ZC l.has,J I q]):=by show _=_;simp[dl,lkD,hask,hq]
    rw[<-hq] at q7;clear hq;have g7:=(B6.cell (p:=(Q (G l.e) 7 Z)) gl).trans q7;have Bk:ZM=T (Q (G l.e) 0 Z):=by rw[DQ.out,j6 hask]
    subst Bk;rw[hask] at O;have k3:B o (Q (z (A wr)+1) 3 Z)=T (J I 0):=by simp[World.cell?,O.out]
    have kf3:o.frozen? (Q (z (A wr)+1) 3 Z)=ZA:=by simp[World.frozen?,O.out]
    have ZK:Hid ((o.setCell (Q (z (A wr)+1) 3 Z) (J I q)).heap[z (A wr)+1]?=T (N #[U l.e,ZC ZD,ZC l.has,J I q] 129 (0,0))):=aw O _;have X7:=ae (X6.far (p:=(Q (z (A wr)+1) 3 Z)) (by show (z (A wr))+1≠z (A w);omega) (J I q));have Y7:=ae (Y6.far (p:=(Q (z (A wr)+1) 3 Z)) (by show (z (A wr))+1≠z (A w)+1;omega) (J I q));have O7:=ae (aA O6 (b:=z (A wr)+1) (λe=>lN O6 O e (by decide)) 3 (J I q));have P7:=ae (aA P6 (b:=z (A wr)+1) (λe=>by have:=(At _ e).2;omega) 3 (J I q));have B7:=ae (B6.setCell (p:=(Q (z (A wr)+1) 3 Z)) (by show (z (A w))<=z (A wr)+1;omega) (J I q));have l0:(o.setCell (Q (z (A wr)+1) 3 Z) (J I q)).cell? (Q (z (A wr)+1) 0 Z)=T (U l.e):=by simp[World.cell?,ZK.out]
    have l1:(o.setCell (Q (z (A wr)+1) 3 Z) (J I q)).cell? (Q (z (A wr)+1) 1 Z)=T (ZC ZD):=by simp[World.cell?,ZK.out]
    have l2:(o.setCell (Q (z (A wr)+1) 3 Z) (J I q)).cell? (Q (z (A wr)+1) 2 Z)=T (ZC l.has):=by simp[World.cell?,ZK.out]
    have l3:(o.setCell (Q (z (A wr)+1) 3 Z) (J I q)).cell? (Q (z (A wr)+1) 3 Z)=T (J I q):=by simp[World.cell?,ZK.out]
    obtain⟨d5,sm⟩:=Y7.c5;have ro:z (A w)+2<=(o.setCell (Q (z (A wr)+1) 3 Z) (J I q)).heap.size:=by first|omega|(simp;omega)
    have D:=ae ((cM (o.setCell (Q (z (A wr)+1) 3 Z) (J I q)).heap.size (o.setCell (Q (z (A wr)+1) 3 Z) (J I q))).alloc ly (N #[U l.e,ZC ZD,ZC l.has,J I q] 129));have XA:=ae (X7.aa D X7.lt);have YA:=ae (Y7.aa D Y7.lt);have OA:=ae (own_below O7 D ly);have C:=ae (own_below P7 D ly);have BA:=ae (B7.trans (D.mono B7.size));have DS:(o.setCell (Q (z (A wr)+1) 3 Z) (J I q)).heap.size+1=((o.setCell (Q (z (A wr)+1) 3 Z) (J I q)).alloc (N #[U l.e,ZC ZD,ZC l.has,J I q] 129)).heap.size:=by simp
    go_wp2_with (at_builtin;refine E4 _ rfl (.tmp 38) (.tmp 40) 44 rfl (z (A w)+2) 129 ld (ZG #[U ⟨#[]⟩,ZC ZA,ZC ZA,J I 0]) 4 32 OD hi n8 n7 ph rfl (by decide) (Y ZQ k c5) k (lkV s (x.looks.take k)) (by simp[Act.eval]) C.out ⟨(o.setCell (Q (z (A wr)+1) 3 Z) (J I q)).heap.size,0,Z⟩ 1 1 [U l.e,ZC ZD,ZC l.has,J I q] (by simp[Act.eval]) rfl (qV (o.setCell (Q (z (A wr)+1) 3 Z) (J I q)) _ _ _ _ _) (by simp[Value.oneCell']) (by unfold maxLen;omega) (by omega) (by simp;omega) ?_;intro v' w7 t f _;obtain⟨y,ZR,rfl⟩:=bH t;rw[<-ex.out,<-oY s x.looks HL.out] at t;have X8:=ae ((XA.grown C f (by omega)).far (p:=(Q (z (A w)+1) 5 Z)) (by simp) (Y y (k+1) ZR));have K:=ae (YA.grown C f (by omega));obtain⟨g5,DE⟩:=K.c5;have Y8:=ae (K.set5 (Y y (k+1) ZR));have O8:=ae (aE (R:=z (A w)+1) (j:=5) (mT OA C f (by decide)) (by omega) (Y y (k+1) ZR));have P8:=ae (aE (R:=z (A w)+1) (j:=5) t (by omega) (Y y (k+1) ZR));have B8:=ae ((bg BA f BA.size (λj e=>by have:=(C.lt j e).1;omega)).setCell (p:=(Q (z (A w)+1) 5 Z)) (D0 _) (Y y (k+1) ZR));clear t f);exact⟨⟨k+1,y,ZR,by omega,by go_num,X8,Y8,O8,P8,B8⟩,by simp[intOf];omega⟩
  ·have e:k=m:=by omega
   subst e;obtain⟨e0,_⟩:=H.c0;obtain⟨e1,_⟩:=H.c1;obtain⟨e2,_⟩:=H.c2;obtain⟨e3,_⟩:=H.c3;obtain⟨e4,_⟩:=H.c4;obtain⟨e5,_⟩:=H.c5;obtain⟨r0,q0⟩:=ZO.c0;obtain⟨r1,q1⟩:=ZO.c1;obtain⟨r2,q2⟩:=ZO.c2;obtain⟨r3,q3⟩:=ZO.c3;obtain⟨r4,q4⟩:=ZO.c4;obtain⟨r5,q5⟩:=ZO.c5;have OF:=ae (aE (aE (aE (aE (aE (aE O5 (R:=z (A w)) (j:=0) (by omega) (U x.e)) (R:=z (A w)) (j:=1) (by omega) (J I x.L)) (R:=z (A w)) (j:=2) (by omega) (J I x.M)) (R:=z (A w)) (j:=3) (by omega) (U x.H)) (R:=z (A w)) (j:=4) (by omega) (Y ZT n ZS)) (R:=z (A w)) (j:=5) (by omega) (Y ZQ k c5));have PF:=ae (aE (aE (aE (aE (aE (aE P5 (R:=z (A w)) (j:=0) (by omega) (U x.e)) (R:=z (A w)) (j:=1) (by omega) (J I x.L)) (R:=z (A w)) (j:=2) (by omega) (J I x.M)) (R:=z (A w)) (j:=3) (by omega) (U x.H)) (R:=z (A w)) (j:=4) (by omega) (Y ZT n ZS)) (R:=z (A w)) (j:=5) (by omega) (Y ZQ k c5));have BF:=ae ((((((B5.setCell (p:=(Q (z (A w)) 0 Z)) ly (U x.e)).setCell (p:=(Q (z (A w)) 1 Z)) ly (J I x.L)).setCell (p:=(Q (z (A w)) 2 Z)) ly (J I x.M)).setCell (p:=(Q (z (A w)) 3 Z)) ly (U x.H)).setCell (p:=(Q (z (A w)) 4 Z)) ly (Y ZT n ZS)).setCell (p:=(Q (z (A w)) 5 Z)) ly (Y ZQ k c5));go_wp2;refine bp (v:=ZG #[U x.e,J I x.L,J I x.M,U x.H,Y ZT n ZS,Y ZQ k c5]) (by simp[results,results76,go_sem,r0,r1,r2,r3,r4,r5]) rfl ⟨_,_,rfl,⟨?_,?_⟩,BF⟩;{show World.ownsRow _ (z (A w)) 146 3 (Y ZT n ZS) (bM S x) (bV (S.f1 x.tg).u (bM S x));rw[<-HN.out];exact aF OF (by omega)};{show World.ownsRow _ (z (A w)) 129 4 (Y ZQ k c5) x.looks.length (bY (lkF s x.looks) x.looks.length);rw[xd,<-HM.out];have h:=PF.out;rw[LQ (by rw[<-HM.out];exact nX _)] at h;exact aF h (by omega)}
