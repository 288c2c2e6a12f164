import Derived.Test.YtkdimgejdocbbaaGreatDoorXC
import Derived.Test.YtkdimgejdocbbaaGreatDoorZW
set_option maxRecDepth 100000
set_option maxHeartbeats 4000000
open Go.Addr renaming mk->J
open Go.Value renaming slice->Y,string->U,int->N,bool->QA,agg->QE
open Option renaming none->Z,some->Q
open Go.Obj renaming cells->T
open Go.IntKind renaming i64->I
open Go renaming World->E,Value->QB,TypeId->QF
open Bool renaming false->D,true->QC
open Go.Ending renaming returned->QD
namespace Go.Proofs.YtkdimgejdocbbaaGreatDoor.Vp
open RowKit
theorem za (w:E):Calls Tryz.prog 165 #[Y Z 0 0] w fun e b=>e=QD (Y Z 0 0)/\b=w:=by have hnl:∀ w:E,(binOp .eql 29 (Y Z 0 0) (Y Z 0 0)).run Tryz.prog w=.ok (QA QC) w:=fun w=>Lib.run_eql_slice_nil w _ _ _ _ _ _ _ Tryz.underlying29;go_enter Tryz.func165,Tryz.ntmps165;go_wp2;go_ret;exact⟨rfl,rfl⟩
theorem oO (w:E):Calls Tryz.prog 84 #[QE #[Y Z 0 0]] w fun e d=>e=QD (QE #[Y Z 0 0])/\Below w.heap.size w d:=by
 have f:=ae (((Qs w).alloc lr (T #[Y Z 0 0] 31)).alloc (by simp) (T #[Y Z 0 0] 31));have b:((w.alloc (T #[Y Z 0 0] 31)).alloc (T #[Y Z 0 0] 31)).cell? (J (w.heap.size+1) 0 Z)=Q (Y Z 0 0):=by simp
 have z0:((w.alloc (T #[Y Z 0 0] 31)).alloc (T #[Y Z 0 0] 31)).frozen? (J (w.heap.size+1) 0 Z)=D:=by simp
 go_enter Tryz.func84,Tryz.ntmps84;go_wp2_with fail;refine(za _).mono ?_;rintro e w1 ⟨rfl,rfl⟩;go_wp2;exact bp (v:=QE #[Y Z 0 0]) (by simp[results,Tryz.results84,go_sem,b]) rfl ⟨rfl,f⟩
theorem pC (a:Option Addr)(n d:Nat)(f:Nat->Ins)(w:E)(k:(n:Int)<=1048576)(h:(n=0/\a=Z/\d=0)∨∃ b off,a=Q (J b off Z)/\RowIns w b off n f):Calls Tryz.prog 84 #[QE #[Y a n d]] w fun e i=>∃ v,e=QD (QE #[v])/\i.ownsRow w.heap.size 188 3 v n (cB f n)/\Below w.heap.size w i:=by
 rcases h with ⟨rfl,rfl,rfl⟩ | ⟨b,off,rfl,l⟩
 ·exact(oO w).mono fun e i ⟨h1,h2⟩=>⟨_,h1,E4 _ _ _ _,h2⟩
 ·exact(n3 b off n d f w k l).mono fun e i ⟨g,c,h1,h2,j⟩=>⟨_,h1,h2,j⟩
def lkV (b:List Ent)(d:List Lk):List QB:=d.flatMap fun l=>ip (lkD b l)
theorem DD (b:List Ent)(d:List Lk):jC (lkF b d) d.length=lkV b d:=by
 unfold jC lkV;rw[show(List.range d.length).map (lkF b d)=d.map (lkD b) from ?_,KV];refine List.ext_getElem? fun i=>?_;rw[ID,ID];rcases IW i d.length with h | h
 ·rw[List.getElem?_range h,gq h]
  simp only[LF];rw[jT (gq h)]
 ·rw[IP h,IP (by simpa using h)]
  rfl
theorem tw (b:List Ent)(d:List Lk){k:Nat}{l:Lk}(h:d[k]?=Q l):lkV b (d.take (k+1))=lkV b (d.take k)++ip (lkD b l):=by rw[List.take_add_one,h];simp[lkV]
theorem vt (w:E)(f b g d:QB)(t:QF):∀ j u,[f,b,g,d][j]?=Q u->(w.alloc (T #[f,b,g,d] t)).cell? (((J w.heap.size 0 Z):Addr).add j)=Q u:=by
 intro j u h;rw[addr_add];match j,h with
 | 0,h=>simp at h;subst h;simp
 | 1,h=>simp at h;subst h;simp
 | 2,h=>simp at h;subst h;simp
 | 3,h=>simp at h;subst h;simp
 | k+4,h=>simp at h
theorem Bq {w:E}{d g c:Nat}{G:ByteArray->Nat}{b:List Lk}(h:w.ownsRow d 212 5 (Y (Q (J g 0 Z)) b.length c) b.length (eX G b)){k:Nat}{l:Lk}(f:b[k]?=Q l)(j:Nat)(i:j<5){u:QB}(m:(kW G l)[j]?=Q u):w.cell? (J g (k*5+j) Z)=Q u :=
 (bv h (j:=k*5+j) (u:=u) (by rw[eX,cS (kW G) 5 (fun _=>rfl) b k j i l f];exact m)).1
theorem lf {w:E}{d size n b:Nat}{e t:QF}{v:QB}{g:List QB}{i:Array QB}(h:w.ownsRow d e size v n g)(hb:w.heap[b]?=Q (T i t (0,0)))(k:v.ownBlock=Q b)(f:e≠t):False:=by obtain⟨_,_,cs',j⟩:=af h b k;exact f (ah j hb)
theorem DBox.grown {w i:E}{b d size n:Nat}{m k g l o j v:QB}{e:QF}{p:List QB}(h:DBox w b m k g l o j)(q:w.ownsRow d e size v n p)(f:w.grownBy i v.ownBlock)(hb:b<d):DBox i b m k g l o j :=
 h.blk f.size (f.block b h.lt fun e=>by have:=(q.lt b e.symm).1;omega)
theorem qt {w m:E}{b size n d f t:Nat}{v l:QB}{e o:QF}{i p:List QB}(h:w.ownsRow b e size v n i)(r:w.ownsRow d o f l t p)(s:w.grownBy m l.ownBlock)(g:e≠o):m.ownsRow b e size v n i :=
 bI h fun k j=>s.block k (h.lt k j).2 fun q=>(ww h k j).ne (Ne.symm g) (ww r k q.symm)
theorem uu (S:Spc)(o:List Ent)(G:ByteArray->Nat)(x:Ent)(w:E)(eb n9:Nat)(a:Option Addr)(t:Nat)(QG:QB)(pl:Int)
  (hb:EntBlk w eb x.name x.kind x.code x.text (Y a (bW S x) t) QG pl)
  (M:(bW S x=0/\a=Z/\t=0)∨∃ b off,a=Q (J b off Z)/\RowIns w b off (bW S x) (S.f1 x.tg).act)
  (hn:bW S x<=1048576) (QJ:x.looks.length<=200)
  (hr:w.ownsRow n9 212 5 QG x.looks.length (eX G x.looks))
  (hp:∀ l∈x.looks,l.ask=QC->w.cell? (J (G l.name) 7 Z)=Q (N I ((gI o l.name:Nat):Int))/\G l.name<w.heap.size) :
  Calls Tryz.prog 93 #[.pointer (Q (J eb 0 Z))] w fun r w'=>∃ va vl,r=QD (QE #[U x.name,N I x.kind,N I x.code,U x.text,va,vl])/\DSub w' w.heap.size (bi S o x,va,vl)/\Below w.heap.size w w':=by
 obtain⟨DA,c0,c1,c2,c3,c4,c5,QL,-,-⟩:=hb.facts;obtain⟨at_,ct,rfl⟩:=bX hr;obtain⟨n,aq⟩:∃ n,n=bW S x:=⟨_,rfl⟩
 obtain⟨m,hm⟩:∃ m,m=x.looks.length:=⟨_,rfl⟩
 have HN:=ae aq;have HM:=ae hm;have HR:=ae hr;have HP:=ae hp;rw[<-aq] at M hn c4;rw[<-hm] at QJ QL;obtain⟨n8,hi,n7,mv,la⟩:=IQ zB;have A0:=ae (((Qs w).alloc lr (T #[U ⟨#[]⟩,N I 0,N I 0,U ⟨#[]⟩,Y Z 0 0,Y Z 0 0] 58)).alloc (by simp) (T #[U x.name,N I x.kind,N I x.code,U x.text,Y a n t,Y Z 0 0] 58));have SS:=zD w (U ⟨#[]⟩) (N I 0) (N I 0) (U ⟨#[]⟩) (Y Z 0 0) (Y Z 0 0) (U x.name) (N I x.kind) (N I x.code) (U x.text) (Y a n t) (Y Z 0 0) 58;have X0:=ae SS.1;have Y0:=ae SS.2;have HA:Hid ((n=0/\a=Z/\t=0)∨∃ b off,a=Q (J b off Z)/\RowIns ((w.alloc (T #[U ⟨#[]⟩,N I 0,N I 0,U ⟨#[]⟩,Y Z 0 0,Y Z 0 0] 58)).alloc (T #[U x.name,N I x.kind,N I x.code,U x.text,Y a n t,Y Z 0 0] 58)) b off n (S.f1 x.tg).act):=M.imp id fun⟨b,off,e,h⟩=>⟨b,off,e,h.below A0 lr⟩
 have DQ:((w.alloc (T #[U ⟨#[]⟩,N I 0,N I 0,U ⟨#[]⟩,Y Z 0 0,Y Z 0 0] 58)).alloc (T #[U x.name,N I x.kind,N I x.code,U x.text,Y a n t,Y Z 0 0] 58)).heap.size=w.heap.size+2:=by simp
 have CT:=ae QL;clear M hr hp hb aq hm SS;go_enter Tryz.func93,Tryz.ntmps93;go_wp2_with fail;generalize (w.alloc (T #[U ⟨#[]⟩,N I 0,N I 0,U ⟨#[]⟩,Y Z 0 0,Y Z 0 0] 58)).alloc (T #[U x.name,N I x.kind,N I x.code,U x.text,Y a n t,Y Z 0 0] 58)=W0 at A0 X0 Y0 HA DQ ⊢;clear c0 c1 c2 c3 c4 c5 QL;refine(pC a n t (S.f1 x.tg).act _ (by omega) HA).mono ?_;rintro e w1 ⟨va,rfl,QH,fd⟩;obtain⟨y,z,rfl⟩:=bX QH;have V:=ae fd;have O1:=ae (aI QH (show w.heap.size+2<=W0.heap.size by omega));clear QH fd;have X1:=ae ((X0.below V (by omega)).far (p:=(J (w.heap.size+1) 4 Z)) (by simp) (Y y n z));have bt:=ae (Y0.below V (by omega));obtain⟨y4,z4⟩:=bt.c4;have Y1:=ae (bt.set4 (Y y n z));have O2:=ae (aG (R:=w.heap.size+1) (j:=4) O1 (by omega) (Y y n z));have B2:=ae ((A0.trans (V.mono A0.size)).setCell (p:=(J (w.heap.size+1) 4 Z)) (AS _) (Y y n z));have n6:w.heap.size+2<=(w1.setCell (J (w.heap.size+1) 4 Z) (Y y n z)).heap.size:=by have:=V.size;simp;omega
 have QL:(w1.setCell (J (w.heap.size+1) 4 Z) (Y y n z)).cell? (J eb 6 Z)=Q (Y at_ m ct):=(B2.cell (p:=(J eb 6 Z)) DA).trans CT;have hmI:(m:Int)<=200:=by omega
 go_wp2;generalize w1.setCell (J (w.heap.size+1) 4 Z) (Y y n z)=W2 at X1 Y1 O2 B2 n6 QL ⊢;clear y4 z4 bt X0 Y0 O1 V HA QL CT;go_loopw [23] (fun i wr=>∃ (k:Nat) (QP:Option Addr) (c5:Nat),k<=m/\i=N I k/\Hid (DBox wr w.heap.size (U ⟨#[]⟩) (N I 0) (N I 0) (U ⟨#[]⟩) (Y Z 0 0) (Y Z 0 0))/\Hid (DBox wr (w.heap.size+1) (U x.name) (N I x.kind) (N I x.code) (U x.text) (Y y n z) (Y QP k c5))/\Hid (wr.ownsRow (w.heap.size+2) 188 3 (Y y n z) n (cB (S.f1 x.tg).act n))/\Hid (wr.ownsRow (w.heap.size+2) 64 4 (Y QP k c5) k (lkV o (x.looks.take k)))/\Hid (Below w.heap.size w wr)) (fun i _=>m - (intOf i).toNat);case atStart=>exact⟨0,Z,0,by omega,rfl,X1,Y1,O2,E4 _ _ _ _,B2⟩
 case round =>
  clear X1 Y1 O2 B2 n6;obtain⟨k,QP,c5,hk,rfl,QN,QO,O5,P5,W⟩:=hrel;have hz5:w.heap.size+2<=wr.heap.size:=by have:=QO.lt;omega
  by_cases sm:k<m
  ·obtain⟨l,QJ⟩:∃ l,x.looks[k]?=Q l:=⟨_,gq (by rw[<-HM.out];exact sm)⟩
   obtain⟨g,ct',e⟩:=iL HR (by rw[<-HM.out];omega);simp only[CN,LN] at e;obtain⟨rfl,rfl⟩:=e;have ld:=(dR HR).2;have P:∀ j,j<5->∀ u,(kW G l)[j]?=Q u->wr.cell? (J g (k*5+j) Z)=Q u:=fun j hj u hu=>(W.cell (p:=(J g (k*5+j) Z)) ld).trans (Bq HR QJ j hj hu);have f0:=P 0 (by omega) _ rfl;have f1:=P 1 (by omega) _ rfl;have f2:=P 2 (by omega) _ rfl;have f3:=P 3 (by omega) _ rfl;have f4:=P 4 (by omega) _ rfl;rw[show k*5+0=k*5 by omega] at f0;have HL:=ae QJ;have ur:Hid (l.ask=QC->w.cell? (J (G l.name) 7 Z)=Q (N I ((gI o l.name:Nat):Int))/\G l.name<w.heap.size):=HP.out l (D0 QJ);clear P QJ;have hgr:g<wr.heap.size:=ll ld W.size;obtain⟨H,ex⟩:∃ H,H=(if l.ask=QC then Q ((J (G l.name) 0 Z):Addr) else Z):=⟨_,rfl⟩
   rw[<-ex] at f4;have Bk:=ae ex;clear ex;have QK:=ae (((Qs wr).alloc lr (T #[U l.name,QA l.ask,QA l.has,N I 0,.pointer H] 212)).alloc (by simp) (T #[U l.name,QA l.ask,QA l.has,N I 0] 64));have X6:=ae (QN.below QK QN.lt);have Y6:=ae (QO.below QK QO.lt);have O6:=ae (own_below O5 QK lr);have P6:=ae (own_below P5 QK lr);have B6:=ae (W.trans (QK.mono W.size));have th:((wr.alloc (T #[U l.name,QA l.ask,QA l.has,N I 0,.pointer H] 212)).alloc (T #[U l.name,QA l.ask,QA l.has,N I 0] 64)).heap.size=wr.heap.size+2:=by simp
   have e4:((wr.alloc (T #[U l.name,QA l.ask,QA l.has,N I 0,.pointer H] 212)).alloc (T #[U l.name,QA l.ask,QA l.has,N I 0] 64)).cell? (J wr.heap.size 4 Z)=Q (.pointer H):=by simp[go_sem]
   have L:Hid (((wr.alloc (T #[U l.name,QA l.ask,QA l.has,N I 0,.pointer H] 212)).alloc (T #[U l.name,QA l.ask,QA l.has,N I 0] 64)).heap[wr.heap.size+1]?=Q (T #[U l.name,QA l.ask,QA l.has,N I 0] 64 (0,0))):=by have h2:=eL (wr.alloc (T #[U l.name,QA l.ask,QA l.has,N I 0,.pointer H] 212)) (T #[U l.name,QA l.ask,QA l.has,N I 0] 64);rw[show(wr.alloc (T #[U l.name,QA l.ask,QA l.has,N I 0,.pointer H] 212)).heap.size=wr.heap.size+1 by simp] at h2;exact h2
   go_upto_if 30 with fail;generalize (wr.alloc (T #[U l.name,QA l.ask,QA l.has,N I 0,.pointer H] 212)).alloc (T #[U l.name,QA l.ask,QA l.has,N I 0] 64)=f at QK X6 Y6 O6 P6 B6 th e4 L ⊢;have Fd:Hid (∀ j,(Value.slice QP k c5).ownBlock=Q j->w.heap.size+2<=j/\j<wr.heap.size):=fun j e=>P5.lt j e;clear f0 f1 f2 f3 f4 QN QO O5 P5;cases hask:l.ask with
   | false =>
    have X:Hid (ip (lkD o l)=[U l.name,QA D,QA l.has,N I 0]):=by show _=_;simp[ip,lkD,hask]
    have QM:Hid (f.heap[wr.heap.size+1]?=Q (T #[U l.name,QA D,QA l.has,N I 0] 64 (0,0))):=by rw[hask] at L;exact L
    have l0:f.cell? (J (wr.heap.size+1) 0 Z)=Q (U l.name):=by simp[World.cell?,QM.out]
    have l1:f.cell? (J (wr.heap.size+1) 1 Z)=Q (QA D):=by simp[World.cell?,QM.out]
    have l2:f.cell? (J (wr.heap.size+1) 2 Z)=Q (QA l.has):=by simp[World.cell?,QM.out]
    have l3:f.cell? (J (wr.heap.size+1) 3 Z)=Q (N I 0):=by simp[World.cell?,QM.out]
    obtain⟨d5,ro⟩:=Y6.c5;have ph:w.heap.size+2<=f.heap.size:=by first | omega | (simp;omega)
    have C:=ae ((Qs f).alloc lr (T #[U l.name,QA D,QA l.has,N I 0] 64));have XA:=ae (X6.below C X6.lt);have YA:=ae (Y6.below C Y6.lt);have OA:=ae (own_below O6 C lr);have QQ:=ae (own_below P6 C lr);have BA:=ae (B6.trans (C.mono B6.size));have DE:f.heap.size+1=(f.alloc (T #[U l.name,QA D,QA l.has,N I 0] 64)).heap.size:=by simp
    go_wp2_with (at_builtin;refine CL _ rfl (.tmp 38) (.tmp 40) 56 rfl (w.heap.size+2) 64 n8 (QE #[U ⟨#[]⟩,QA D,QA D,N I 0]) 4 32 Tryz.underlying56 hi n7 mv la rfl (by decide) (Y QP k c5) k (lkV o (x.looks.take k)) (by simp[Act.eval]) QQ.out (J f.heap.size 0 Z) 1 1 [U l.name,QA D,QA l.has,N I 0] (by simp[Act.eval]) rfl (vt f _ _ _ _ _) (by simp[Value.oneCell']) (by unfold maxLen;omega) (by omega) (by simp;omega) ?_;intro v' w7 s d _;obtain⟨B,A,rfl⟩:=bX s;rw[<-X.out,<-tw o x.looks HL.out] at s;have X8:=ae ((XA.grown QQ d (by omega)).far (p:=(J (w.heap.size+1) 5 Z)) (by simp) (Y B (k+1) A));have K:=ae (YA.grown QQ d (by omega));obtain⟨g5,qr⟩:=K.c5;have Y8:=ae (K.set5 (Y B (k+1) A));have O8:=ae (aG (R:=w.heap.size+1) (j:=5) (qt OA QQ d (by decide)) (by omega) (Y B (k+1) A));have P8:=ae (aG (R:=w.heap.size+1) (j:=5) s (by omega) (Y B (k+1) A));have B8:=ae ((bg BA d BA.size (fun j e=>by have:=(QQ.lt j e).1;omega)).setCell (p:=(J (w.heap.size+1) 5 Z)) (AS _) (Y B (k+1) A));clear s d);exact⟨⟨k+1,B,A,by omega,by go_num,X8,Y8,O8,P8,B8⟩,by simp[intOf];omega⟩
   | true =>
    obtain⟨q7,gl⟩:=ur.out hask;obtain⟨q,hq⟩:∃ q:Int,q=((gI o l.name:Nat):Int):=⟨_,rfl⟩
    have X:Hid (ip (lkD o l)=[U l.name,QA QC,QA l.has,N I q]):=by show _=_;simp[ip,lkD,hask,hq]
    rw[<-hq] at q7;clear hq;have g7:=(B6.cell (p:=(J (G l.name) 7 Z)) gl).trans q7;have At:H=Q (J (G l.name) 0 Z):=by rw[Bk.out,eT hask]
    subst At;rw[hask] at L;have k3:f.cell? (J (wr.heap.size+1) 3 Z)=Q (N I 0):=by simp[World.cell?,L.out]
    have kf3:f.frozen? (J (wr.heap.size+1) 3 Z)=D:=by simp[World.frozen?,L.out]
    have O:Hid ((f.setCell (J (wr.heap.size+1) 3 Z) (N I q)).heap[wr.heap.size+1]?=Q (T #[U l.name,QA QC,QA l.has,N I q] 64 (0,0))):=aw L _;have X7:=ae (X6.far (p:=(J (wr.heap.size+1) 3 Z)) (by show wr.heap.size+1≠w.heap.size;omega) (N I q));have Y7:=ae (Y6.far (p:=(J (wr.heap.size+1) 3 Z)) (by show wr.heap.size+1≠w.heap.size+1;omega) (N I q));have O7:=ae (az O6 (b:=wr.heap.size+1) (fun e=>lf O6 L e (by decide)) 3 (N I q));have P7:=ae (az P6 (b:=wr.heap.size+1) (fun e=>by have:=(Fd _ e).2;omega) 3 (N I q));have B7:=ae (B6.setCell (p:=(J (wr.heap.size+1) 3 Z)) (by show w.heap.size<=wr.heap.size+1;omega) (N I q));have l0:(f.setCell (J (wr.heap.size+1) 3 Z) (N I q)).cell? (J (wr.heap.size+1) 0 Z)=Q (U l.name):=by simp[World.cell?,O.out]
    have l1:(f.setCell (J (wr.heap.size+1) 3 Z) (N I q)).cell? (J (wr.heap.size+1) 1 Z)=Q (QA QC):=by simp[World.cell?,O.out]
    have l2:(f.setCell (J (wr.heap.size+1) 3 Z) (N I q)).cell? (J (wr.heap.size+1) 2 Z)=Q (QA l.has):=by simp[World.cell?,O.out]
    have l3:(f.setCell (J (wr.heap.size+1) 3 Z) (N I q)).cell? (J (wr.heap.size+1) 3 Z)=Q (N I q):=by simp[World.cell?,O.out]
    obtain⟨d5,ro⟩:=Y7.c5;have ph:w.heap.size+2<=(f.setCell (J (wr.heap.size+1) 3 Z) (N I q)).heap.size:=by first | omega | (simp;omega)
    have C:=ae ((eI (f.setCell (J (wr.heap.size+1) 3 Z) (N I q)).heap.size (f.setCell (J (wr.heap.size+1) 3 Z) (N I q))).alloc lr (T #[U l.name,QA QC,QA l.has,N I q] 64));have XA:=ae (X7.below C X7.lt);have YA:=ae (Y7.below C Y7.lt);have OA:=ae (own_below O7 C lr);have QQ:=ae (own_below P7 C lr);have BA:=ae (B7.trans (C.mono B7.size));have DE:(f.setCell (J (wr.heap.size+1) 3 Z) (N I q)).heap.size+1=((f.setCell (J (wr.heap.size+1) 3 Z) (N I q)).alloc (T #[U l.name,QA QC,QA l.has,N I q] 64)).heap.size:=by simp
    go_wp2_with (at_builtin;refine CL _ rfl (.tmp 38) (.tmp 40) 56 rfl (w.heap.size+2) 64 n8 (QE #[U ⟨#[]⟩,QA D,QA D,N I 0]) 4 32 Tryz.underlying56 hi n7 mv la rfl (by decide) (Y QP k c5) k (lkV o (x.looks.take k)) (by simp[Act.eval]) QQ.out ⟨(f.setCell (J (wr.heap.size+1) 3 Z) (N I q)).heap.size,0,Z⟩ 1 1 [U l.name,QA QC,QA l.has,N I q] (by simp[Act.eval]) rfl (vt (f.setCell (J (wr.heap.size+1) 3 Z) (N I q)) _ _ _ _ _) (by simp[Value.oneCell']) (by unfold maxLen;omega) (by omega) (by simp;omega) ?_;intro v' w7 s d _;obtain⟨B,A,rfl⟩:=bX s;rw[<-X.out,<-tw o x.looks HL.out] at s;have X8:=ae ((XA.grown QQ d (by omega)).far (p:=(J (w.heap.size+1) 5 Z)) (by simp) (Y B (k+1) A));have K:=ae (YA.grown QQ d (by omega));obtain⟨g5,qr⟩:=K.c5;have Y8:=ae (K.set5 (Y B (k+1) A));have O8:=ae (aG (R:=w.heap.size+1) (j:=5) (qt OA QQ d (by decide)) (by omega) (Y B (k+1) A));have P8:=ae (aG (R:=w.heap.size+1) (j:=5) s (by omega) (Y B (k+1) A));have B8:=ae ((bg BA d BA.size (fun j e=>by have:=(QQ.lt j e).1;omega)).setCell (p:=(J (w.heap.size+1) 5 Z)) (AS _) (Y B (k+1) A));clear s d);exact⟨⟨k+1,B,A,by omega,by go_num,X8,Y8,O8,P8,B8⟩,by simp[intOf];omega⟩
  ·have e:k=m:=by omega
   subst e;obtain⟨e0,_⟩:=QO.c0;obtain⟨e1,_⟩:=QO.c1;obtain⟨e2,_⟩:=QO.c2;obtain⟨e3,_⟩:=QO.c3;obtain⟨e4,_⟩:=QO.c4;obtain⟨e5,_⟩:=QO.c5;obtain⟨r0,q0⟩:=QN.c0;obtain⟨r1,q1⟩:=QN.c1;obtain⟨r2,q2⟩:=QN.c2;obtain⟨r3,q3⟩:=QN.c3;obtain⟨r4,q4⟩:=QN.c4;obtain⟨r5,q5⟩:=QN.c5;have OF:=ae (aG (aG (aG (aG (aG (aG O5 (R:=w.heap.size) (j:=0) (by omega) (U x.name)) (R:=w.heap.size) (j:=1) (by omega) (N I x.kind)) (R:=w.heap.size) (j:=2) (by omega) (N I x.code)) (R:=w.heap.size) (j:=3) (by omega) (U x.text)) (R:=w.heap.size) (j:=4) (by omega) (Y y n z)) (R:=w.heap.size) (j:=5) (by omega) (Y QP k c5));have PF:=ae (aG (aG (aG (aG (aG (aG P5 (R:=w.heap.size) (j:=0) (by omega) (U x.name)) (R:=w.heap.size) (j:=1) (by omega) (N I x.kind)) (R:=w.heap.size) (j:=2) (by omega) (N I x.code)) (R:=w.heap.size) (j:=3) (by omega) (U x.text)) (R:=w.heap.size) (j:=4) (by omega) (Y y n z)) (R:=w.heap.size) (j:=5) (by omega) (Y QP k c5));have BF:=ae ((((((W.setCell (p:=(J w.heap.size 0 Z)) lr (U x.name)).setCell (p:=(J w.heap.size 1 Z)) lr (N I x.kind)).setCell (p:=(J w.heap.size 2 Z)) lr (N I x.code)).setCell (p:=(J w.heap.size 3 Z)) lr (U x.text)).setCell (p:=(J w.heap.size 4 Z)) lr (Y y n z)).setCell (p:=(J w.heap.size 5 Z)) lr (Y QP k c5));go_wp2;refine bp (v:=QE #[U x.name,N I x.kind,N I x.code,U x.text,Y y n z,Y QP k c5]) (by simp[results,Tryz.results93,go_sem,r0,r1,r2,r3,r4,r5]) rfl ⟨_,_,rfl,⟨?_,?_⟩,BF⟩
   ·show World.ownsRow _ w.heap.size 188 3 (Y y n z) (bW S x) (cB (S.f1 x.tg).act (bW S x))
    rw[<-HN.out];exact aI OF (by omega)
   ·show World.ownsRow _ w.heap.size 64 4 (Y QP k c5) x.looks.length (jC (lkF o x.looks) x.looks.length)
    rw[DD,<-HM.out];have h:=PF.out;rw[IY (by rw[<-HM.out];exact j6 _)] at h;exact aI h (by omega)
end Go.Proofs.YtkdimgejdocbbaaGreatDoor.Vp
