import Derived.Test.YtkdimgejdocbbaaGreatDoorXC
import Derived.Test.YtkdimgejdocbbaaGreatDoorZW
set_option maxRecDepth 100000
set_option maxHeartbeats 4000000
open Go.Addr renaming mk->J
open Go.Value renaming slice->Z,string->U,int->Q,bool->QA,agg->QE
open Option renaming none->Y,some->N
open Go.Obj renaming cells->T
open Go.IntKind renaming i64->I
open Go renaming World->E,Value->QB,TypeId->QF
open Bool renaming false->D,true->QC
open Go.Ending renaming returned->QD
namespace Go.Proofs.YtkdimgejdocbbaaGreatDoor.Vp
open RowKit
theorem za (w:E):Calls Tryz.prog 165 #[Z Y 0 0] w fun e b=>e=QD (Z Y 0 0)/\b=w:=by have hnl:∀ w:E,(binOp .eql 29 (Z Y 0 0) (Z Y 0 0)).run Tryz.prog w=.ok (QA QC) w:=fun w=>Lib.run_eql_slice_nil w _ _ _ _ _ _ _ Tryz.underlying29;go_enter Tryz.func165,Tryz.ntmps165;go_wp2;go_ret;exact⟨rfl,rfl⟩
theorem oO (w:E):Calls Tryz.prog 84 #[QE #[Z Y 0 0]] w fun e d=>e=QD (QE #[Z Y 0 0])/\Below w.heap.size w d:=by
 have f:=ae (((Qs w).alloc lr (T #[Z Y 0 0] 31)).alloc (by simp) (T #[Z Y 0 0] 31));have b:((w.alloc (T #[Z Y 0 0] 31)).alloc (T #[Z Y 0 0] 31)).cell? (J (w.heap.size+1) 0 Y)=N (Z Y 0 0):=by simp
 have z0:((w.alloc (T #[Z Y 0 0] 31)).alloc (T #[Z Y 0 0] 31)).frozen? (J (w.heap.size+1) 0 Y)=D:=by simp
 go_enter Tryz.func84,Tryz.ntmps84;go_wp2_with fail;refine(za _).mono ?_;rintro e w1 ⟨rfl,rfl⟩;go_wp2;exact bp (v:=QE #[Z Y 0 0]) (by simp[results,Tryz.results84,go_sem,b]) rfl ⟨rfl,f⟩
theorem pC (a:Option Addr)(n d:Nat)(f:Nat->Ins)(w:E)(l:(n:Int)<=1048576)(h:(n=0/\a=Y/\d=0)∨∃ b off,a=N (J b off Y)/\RowIns w b off n f):Calls Tryz.prog 84 #[QE #[Z a n d]] w fun e i=>∃ v,e=QD (QE #[v])/\i.ownsRow w.heap.size 188 3 v n (cB f n)/\Below w.heap.size w i:=by
 rcases h with ⟨rfl,rfl,rfl⟩ | ⟨b,off,rfl,j⟩
 ·exact(oO w).mono fun e i ⟨h1,h2⟩=>⟨_,h1,H7 _ _ _ _,h2⟩
 ·exact(n3 b off n d f w l j).mono fun e i ⟨g,c,h1,h2,k⟩=>⟨_,h1,h2,k⟩
def lkV (b:List Ent)(d:List Lk):List QB:=d.flatMap fun l=>ip (lkD b l)
theorem DD (b:List Ent)(d:List Lk):jC (lkF b d) d.length=lkV b d:=by
 unfold jC lkV;rw[show(List.range d.length).map (lkF b d)=d.map (lkD b) from ?_,LB];refine List.ext_getElem? fun i=>?_;rw[IE,IE];rcases IX i d.length with h | h
 ·rw[List.getElem?_range h,gq h]
  simp only[LI];rw[jT (gq h)]
 ·rw[IQ h,IQ (by simpa using h)]
  rfl
theorem tw (b:List Ent)(d:List Lk){k:Nat}{l:Lk}(h:d[k]?=N l):lkV b (d.take (k+1))=lkV b (d.take k)++ip (lkD b l):=by rw[List.take_add_one,h];simp[lkV]
theorem vt (w:E)(g f b d:QB)(t:QF):∀ j u,[g,f,b,d][j]?=N u->(w.alloc (T #[g,f,b,d] t)).cell? (((J w.heap.size 0 Y):Addr).add j)=N u:=by
 intro j u h;rw[addr_add];match j,h with
 | 0,h=>simp at h;subst h;simp
 | 1,h=>simp at h;subst h;simp
 | 2,h=>simp at h;subst h;simp
 | 3,h=>simp at h;subst h;simp
 | k+4,h=>simp at h
theorem Bq {w:E}{d g c:Nat}{G:ByteArray->Nat}{b:List Lk}(h:w.ownsRow d 212 5 (Z (N (J g 0 Y)) b.length c) b.length (eX G b)){k:Nat}{l:Lk}(i:b[k]?=N l)(j:Nat)(m:j<5){u:QB}(f:(kW G l)[j]?=N u):w.cell? (J g (k*5+j) Y)=N u :=
 (bv h (j:=k*5+j) (u:=u) (by rw[eX,cS (kW G) 5 (fun _=>rfl) b k j m l i];exact f)).1
theorem lf {w:E}{d size n b:Nat}{e t:QF}{v:QB}{g:List QB}{j:Array QB}(h:w.ownsRow d e size v n g)(hb:w.heap[b]?=N (T j t (0,0)))(k:v.ownBlock=N b)(f:e≠t):False:=by obtain⟨_,_,cs',i⟩:=af h b k;exact f (ah i hb)
theorem DBox.grown {w j:E}{b d size n:Nat}{o g l f m i v:QB}{e:QF}{p:List QB}(h:DBox w b o g l f m i)(q:w.ownsRow d e size v n p)(k:w.grownBy j v.ownBlock)(hb:b<d):DBox j b o g l f m i :=
 h.blk k.size (k.block b h.lt fun e=>by have:=(q.lt b e.symm).1;omega)
theorem qt {w j:E}{b size n d f r:Nat}{v o:QB}{e m:QF}{i l:List QB}(h:w.ownsRow b e size v n i)(t:w.ownsRow d m f o r l)(s:w.grownBy j o.ownBlock)(g:e≠m):j.ownsRow b e size v n i :=
 bI h fun k p=>s.block k (h.lt k p).2 fun q=>(ww h k p).ne (Ne.symm g) (ww t k q.symm)
theorem uu (S:Spc)(o:List Ent)(G:ByteArray->Nat)(x:Ent)(w:E)(eb n9:Nat)(a:Option Addr)(y:Nat)(ex:QB)(pl:Int)
  (hb:EntBlk w eb x.name x.kind x.code x.text (Z a (bW S x) y) ex pl)
  (M:(bW S x=0/\a=Y/\y=0)∨∃ b off,a=N (J b off Y)/\RowIns w b off (bW S x) (S.f1 x.tg).act)
  (hn:bW S x<=1048576) (QJ:x.looks.length<=200)
  (hr:w.ownsRow n9 212 5 ex x.looks.length (eX G x.looks))
  (hp:∀ l∈x.looks,l.ask=QC->w.cell? (J (G l.name) 7 Y)=N (Q I ((gI o l.name:Nat):Int))/\G l.name<w.heap.size) :
  Calls Tryz.prog 93 #[.pointer (N (J eb 0 Y))] w fun r w'=>∃ va vl,r=QD (QE #[U x.name,Q I x.kind,Q I x.code,U x.text,va,vl])/\DSub w' w.heap.size (bi S o x,va,vl)/\Below w.heap.size w w':=by
 obtain⟨qr,c0,c1,c2,c3,c4,c5,QK,-,-⟩:=hb.facts;obtain⟨at_,ct,rfl⟩:=bX hr;obtain⟨n,X⟩:∃ n,n=bW S x:=⟨_,rfl⟩
 obtain⟨m,hm⟩:∃ m,m=x.looks.length:=⟨_,rfl⟩
 have HN:=ae X;have HM:=ae hm;have HR:=ae hr;have HP:=ae hp;rw[<-X] at M hn c4;rw[<-hm] at QJ QK;obtain⟨mv,hi,ld,la,n7⟩:=IS zB;have A0:=ae (((Qs w).alloc lr (T #[U ⟨#[]⟩,Q I 0,Q I 0,U ⟨#[]⟩,Z Y 0 0,Z Y 0 0] 58)).alloc (by simp) (T #[U x.name,Q I x.kind,Q I x.code,U x.text,Z a n y,Z Y 0 0] 58));have SS:=zD w (U ⟨#[]⟩) (Q I 0) (Q I 0) (U ⟨#[]⟩) (Z Y 0 0) (Z Y 0 0) (U x.name) (Q I x.kind) (Q I x.code) (U x.text) (Z a n y) (Z Y 0 0) 58;have X0:=ae SS.1;have Y0:=ae SS.2;have HA:Hid ((n=0/\a=Y/\y=0)∨∃ b off,a=N (J b off Y)/\RowIns ((w.alloc (T #[U ⟨#[]⟩,Q I 0,Q I 0,U ⟨#[]⟩,Z Y 0 0,Z Y 0 0] 58)).alloc (T #[U x.name,Q I x.kind,Q I x.code,U x.text,Z a n y,Z Y 0 0] 58)) b off n (S.f1 x.tg).act):=M.imp id fun⟨b,off,e,h⟩=>⟨b,off,e,h.below A0 lr⟩
 have DQ:((w.alloc (T #[U ⟨#[]⟩,Q I 0,Q I 0,U ⟨#[]⟩,Z Y 0 0,Z Y 0 0] 58)).alloc (T #[U x.name,Q I x.kind,Q I x.code,U x.text,Z a n y,Z Y 0 0] 58)).heap.size=w.heap.size+2:=by simp
 have CT:=ae QK;clear M hr hp hb X hm SS;go_enter Tryz.func93,Tryz.ntmps93;go_wp2_with fail;generalize (w.alloc (T #[U ⟨#[]⟩,Q I 0,Q I 0,U ⟨#[]⟩,Z Y 0 0,Z Y 0 0] 58)).alloc (T #[U x.name,Q I x.kind,Q I x.code,U x.text,Z a n y,Z Y 0 0] 58)=W0 at A0 X0 Y0 HA DQ ⊢;clear c0 c1 c2 c3 c4 c5 QK;refine(pC a n y (S.f1 x.tg).act _ (by omega) HA).mono ?_;rintro e w1 ⟨va,rfl,QG,fd⟩;obtain⟨z,t,rfl⟩:=bX QG;have QH:=ae fd;have O1:=ae (aI QG (show w.heap.size+2<=W0.heap.size by omega));clear QG fd;have X1:=ae ((X0.below QH (by omega)).far (p:=(J (w.heap.size+1) 4 Y)) (by simp) (Z z n t));have aq:=ae (Y0.below QH (by omega));obtain⟨y4,z4⟩:=aq.c4;have Y1:=ae (aq.set4 (Z z n t));have O2:=ae (aG (R:=w.heap.size+1) (j:=4) O1 (by omega) (Z z n t));have B2:=ae ((A0.trans (QH.mono A0.size)).setCell (p:=(J (w.heap.size+1) 4 Y)) (AS _) (Z z n t));have n6:w.heap.size+2<=(w1.setCell (J (w.heap.size+1) 4 Y) (Z z n t)).heap.size:=by have:=QH.size;simp;omega
 have QK:(w1.setCell (J (w.heap.size+1) 4 Y) (Z z n t)).cell? (J eb 6 Y)=N (Z at_ m ct):=(B2.cell (p:=(J eb 6 Y)) qr).trans CT;have hmI:(m:Int)<=200:=by omega
 go_wp2;generalize w1.setCell (J (w.heap.size+1) 4 Y) (Z z n t)=W2 at X1 Y1 O2 B2 n6 QK ⊢;clear y4 z4 aq X0 Y0 O1 QH HA QK CT;go_loopw [23] (fun i wr=>∃ (k:Nat) (C:Option Addr) (c5:Nat),k<=m/\i=Q I k/\Hid (DBox wr w.heap.size (U ⟨#[]⟩) (Q I 0) (Q I 0) (U ⟨#[]⟩) (Z Y 0 0) (Z Y 0 0))/\Hid (DBox wr (w.heap.size+1) (U x.name) (Q I x.kind) (Q I x.code) (U x.text) (Z z n t) (Z C k c5))/\Hid (wr.ownsRow (w.heap.size+2) 188 3 (Z z n t) n (cB (S.f1 x.tg).act n))/\Hid (wr.ownsRow (w.heap.size+2) 64 4 (Z C k c5) k (lkV o (x.looks.take k)))/\Hid (Below w.heap.size w wr)) (fun i _=>m - (intOf i).toNat);case atStart=>exact⟨0,Y,0,by omega,rfl,X1,Y1,O2,H7 _ _ _ _,B2⟩
 case round =>
  clear X1 Y1 O2 B2 n6;obtain⟨k,C,c5,hk,rfl,QN,QO,O5,P5,B5⟩:=hrel;have hz5:w.heap.size+2<=wr.heap.size:=by have:=QO.lt;omega
  by_cases Bk:k<m
  ·obtain⟨l,QJ⟩:∃ l,x.looks[k]?=N l:=⟨_,gq (by rw[<-HM.out];exact Bk)⟩
   obtain⟨g,ct',e⟩:=iL HR (by rw[<-HM.out];omega);simp only[CL,LR] at e;obtain⟨rfl,rfl⟩:=e;have n8:=(dR HR).2;have P:∀ j,j<5->∀ u,(kW G l)[j]?=N u->wr.cell? (J g (k*5+j) Y)=N u:=fun j hj u hu=>(B5.cell (p:=(J g (k*5+j) Y)) n8).trans (Bq HR QJ j hj hu);have f0:=P 0 (by omega) _ rfl;have f1:=P 1 (by omega) _ rfl;have f2:=P 2 (by omega) _ rfl;have f3:=P 3 (by omega) _ rfl;have f4:=P 4 (by omega) _ rfl;rw[show k*5+0=k*5 by omega] at f0;have HL:=ae QJ;have sm:Hid (l.ask=QC->w.cell? (J (G l.name) 7 Y)=N (Q I ((gI o l.name:Nat):Int))/\G l.name<w.heap.size):=HP.out l (EQ QJ);clear P QJ;have hgr:g<wr.heap.size:=ll n8 B5.size;obtain⟨QP,V⟩:∃ QP,QP=(if l.ask=QC then N ((J (G l.name) 0 Y):Addr) else Y):=⟨_,rfl⟩
   rw[<-V] at f4;have ur:=ae V;clear V;have QM:=ae (((Qs wr).alloc lr (T #[U l.name,QA l.ask,QA l.has,Q I 0,.pointer QP] 212)).alloc (by simp) (T #[U l.name,QA l.ask,QA l.has,Q I 0] 64));have X6:=ae (QN.below QM QN.lt);have Y6:=ae (QO.below QM QO.lt);have O6:=ae (own_below O5 QM lr);have P6:=ae (own_below P5 QM lr);have W:=ae (B5.trans (QM.mono B5.size));have ro:((wr.alloc (T #[U l.name,QA l.ask,QA l.has,Q I 0,.pointer QP] 212)).alloc (T #[U l.name,QA l.ask,QA l.has,Q I 0] 64)).heap.size=wr.heap.size+2:=by simp
   have e4:((wr.alloc (T #[U l.name,QA l.ask,QA l.has,Q I 0,.pointer QP] 212)).alloc (T #[U l.name,QA l.ask,QA l.has,Q I 0] 64)).cell? (J wr.heap.size 4 Y)=N (.pointer QP):=by simp[go_sem]
   have K:Hid (((wr.alloc (T #[U l.name,QA l.ask,QA l.has,Q I 0,.pointer QP] 212)).alloc (T #[U l.name,QA l.ask,QA l.has,Q I 0] 64)).heap[wr.heap.size+1]?=N (T #[U l.name,QA l.ask,QA l.has,Q I 0] 64 (0,0))):=by have h2:=eL (wr.alloc (T #[U l.name,QA l.ask,QA l.has,Q I 0,.pointer QP] 212)) (T #[U l.name,QA l.ask,QA l.has,Q I 0] 64);rw[show(wr.alloc (T #[U l.name,QA l.ask,QA l.has,Q I 0,.pointer QP] 212)).heap.size=wr.heap.size+1 by simp] at h2;exact h2
   go_upto_if 30 with fail;generalize (wr.alloc (T #[U l.name,QA l.ask,QA l.has,Q I 0,.pointer QP] 212)).alloc (T #[U l.name,QA l.ask,QA l.has,Q I 0] 64)=f at QM X6 Y6 O6 P6 W ro e4 K ⊢;have DA:Hid (∀ j,(Value.slice C k c5).ownBlock=N j->w.heap.size+2<=j/\j<wr.heap.size):=fun j e=>P5.lt j e;clear f0 f1 f2 f3 f4 QN QO O5 P5;cases hask:l.ask with
   | false =>
    have bt:Hid (ip (lkD o l)=[U l.name,QA D,QA l.has,Q I 0]):=by show _=_;simp[ip,lkD,hask]
    have O:Hid (f.heap[wr.heap.size+1]?=N (T #[U l.name,QA D,QA l.has,Q I 0] 64 (0,0))):=by rw[hask] at K;exact K
    have l0:f.cell? (J (wr.heap.size+1) 0 Y)=N (U l.name):=by simp[World.cell?,O.out]
    have l1:f.cell? (J (wr.heap.size+1) 1 Y)=N (QA D):=by simp[World.cell?,O.out]
    have l2:f.cell? (J (wr.heap.size+1) 2 Y)=N (QA l.has):=by simp[World.cell?,O.out]
    have l3:f.cell? (J (wr.heap.size+1) 3 Y)=N (Q I 0):=by simp[World.cell?,O.out]
    obtain⟨d5,th⟩:=Y6.c5;have At:w.heap.size+2<=f.heap.size:=by first | omega | (simp;omega)
    have QQ:=ae ((Qs f).alloc lr (T #[U l.name,QA D,QA l.has,Q I 0] 64));have XA:=ae (X6.below QQ X6.lt);have YA:=ae (Y6.below QQ Y6.lt);have OA:=ae (own_below O6 QQ lr);have H:=ae (own_below P6 QQ lr);have BA:=ae (W.trans (QQ.mono W.size));have ph:f.heap.size+1=(f.alloc (T #[U l.name,QA D,QA l.has,Q I 0] 64)).heap.size:=by simp
    go_wp2_with (at_builtin;refine CD _ rfl (.tmp 38) (.tmp 40) 56 rfl (w.heap.size+2) 64 mv (QE #[U ⟨#[]⟩,QA D,QA D,Q I 0]) 4 32 Tryz.underlying56 hi ld la n7 rfl (by decide) (Z C k c5) k (lkV o (x.looks.take k)) (by simp[Act.eval]) H.out (J f.heap.size 0 Y) 1 1 [U l.name,QA D,QA l.has,Q I 0] (by simp[Act.eval]) rfl (vt f _ _ _ _ _) (by simp[Value.oneCell']) (by unfold maxLen;omega) (by omega) (by simp;omega) ?_;intro v' w7 s d _;obtain⟨B,A,rfl⟩:=bX s;rw[<-bt.out,<-tw o x.looks HL.out] at s;have X8:=ae ((XA.grown H d (by omega)).far (p:=(J (w.heap.size+1) 5 Y)) (by simp) (Z B (k+1) A));have L:=ae (YA.grown H d (by omega));obtain⟨g5,DE⟩:=L.c5;have Y8:=ae (L.set5 (Z B (k+1) A));have O8:=ae (aG (R:=w.heap.size+1) (j:=5) (qt OA H d (by decide)) (by omega) (Z B (k+1) A));have P8:=ae (aG (R:=w.heap.size+1) (j:=5) s (by omega) (Z B (k+1) A));have B8:=ae ((bg BA d BA.size (fun j e=>by have:=(H.lt j e).1;omega)).setCell (p:=(J (w.heap.size+1) 5 Y)) (AS _) (Z B (k+1) A));clear s d);exact⟨⟨k+1,B,A,by omega,by go_num,X8,Y8,O8,P8,B8⟩,by simp[intOf];omega⟩
   | true =>
    obtain⟨q7,gl⟩:=sm.out hask;obtain⟨q,hq⟩:∃ q:Int,q=((gI o l.name:Nat):Int):=⟨_,rfl⟩
    have bt:Hid (ip (lkD o l)=[U l.name,QA QC,QA l.has,Q I q]):=by show _=_;simp[ip,lkD,hask,hq]
    rw[<-hq] at q7;clear hq;have g7:=(W.cell (p:=(J (G l.name) 7 Y)) gl).trans q7;have Fd:QP=N (J (G l.name) 0 Y):=by rw[ur.out,eT hask]
    subst Fd;rw[hask] at K;have k3:f.cell? (J (wr.heap.size+1) 3 Y)=N (Q I 0):=by simp[World.cell?,K.out]
    have kf3:f.frozen? (J (wr.heap.size+1) 3 Y)=D:=by simp[World.frozen?,K.out]
    have QL:Hid ((f.setCell (J (wr.heap.size+1) 3 Y) (Q I q)).heap[wr.heap.size+1]?=N (T #[U l.name,QA QC,QA l.has,Q I q] 64 (0,0))):=aw K _;have X7:=ae (X6.far (p:=(J (wr.heap.size+1) 3 Y)) (by show wr.heap.size+1≠w.heap.size;omega) (Q I q));have Y7:=ae (Y6.far (p:=(J (wr.heap.size+1) 3 Y)) (by show wr.heap.size+1≠w.heap.size+1;omega) (Q I q));have O7:=ae (az O6 (b:=wr.heap.size+1) (fun e=>lf O6 K e (by decide)) 3 (Q I q));have P7:=ae (az P6 (b:=wr.heap.size+1) (fun e=>by have:=(DA _ e).2;omega) 3 (Q I q));have B7:=ae (W.setCell (p:=(J (wr.heap.size+1) 3 Y)) (by show w.heap.size<=wr.heap.size+1;omega) (Q I q));have l0:(f.setCell (J (wr.heap.size+1) 3 Y) (Q I q)).cell? (J (wr.heap.size+1) 0 Y)=N (U l.name):=by simp[World.cell?,QL.out]
    have l1:(f.setCell (J (wr.heap.size+1) 3 Y) (Q I q)).cell? (J (wr.heap.size+1) 1 Y)=N (QA QC):=by simp[World.cell?,QL.out]
    have l2:(f.setCell (J (wr.heap.size+1) 3 Y) (Q I q)).cell? (J (wr.heap.size+1) 2 Y)=N (QA l.has):=by simp[World.cell?,QL.out]
    have l3:(f.setCell (J (wr.heap.size+1) 3 Y) (Q I q)).cell? (J (wr.heap.size+1) 3 Y)=N (Q I q):=by simp[World.cell?,QL.out]
    obtain⟨d5,th⟩:=Y7.c5;have At:w.heap.size+2<=(f.setCell (J (wr.heap.size+1) 3 Y) (Q I q)).heap.size:=by first | omega | (simp;omega)
    have QQ:=ae ((eI (f.setCell (J (wr.heap.size+1) 3 Y) (Q I q)).heap.size (f.setCell (J (wr.heap.size+1) 3 Y) (Q I q))).alloc lr (T #[U l.name,QA QC,QA l.has,Q I q] 64));have XA:=ae (X7.below QQ X7.lt);have YA:=ae (Y7.below QQ Y7.lt);have OA:=ae (own_below O7 QQ lr);have H:=ae (own_below P7 QQ lr);have BA:=ae (B7.trans (QQ.mono B7.size));have ph:(f.setCell (J (wr.heap.size+1) 3 Y) (Q I q)).heap.size+1=((f.setCell (J (wr.heap.size+1) 3 Y) (Q I q)).alloc (T #[U l.name,QA QC,QA l.has,Q I q] 64)).heap.size:=by simp
    go_wp2_with (at_builtin;refine CD _ rfl (.tmp 38) (.tmp 40) 56 rfl (w.heap.size+2) 64 mv (QE #[U ⟨#[]⟩,QA D,QA D,Q I 0]) 4 32 Tryz.underlying56 hi ld la n7 rfl (by decide) (Z C k c5) k (lkV o (x.looks.take k)) (by simp[Act.eval]) H.out ⟨(f.setCell (J (wr.heap.size+1) 3 Y) (Q I q)).heap.size,0,Y⟩ 1 1 [U l.name,QA QC,QA l.has,Q I q] (by simp[Act.eval]) rfl (vt (f.setCell (J (wr.heap.size+1) 3 Y) (Q I q)) _ _ _ _ _) (by simp[Value.oneCell']) (by unfold maxLen;omega) (by omega) (by simp;omega) ?_;intro v' w7 s d _;obtain⟨B,A,rfl⟩:=bX s;rw[<-bt.out,<-tw o x.looks HL.out] at s;have X8:=ae ((XA.grown H d (by omega)).far (p:=(J (w.heap.size+1) 5 Y)) (by simp) (Z B (k+1) A));have L:=ae (YA.grown H d (by omega));obtain⟨g5,DE⟩:=L.c5;have Y8:=ae (L.set5 (Z B (k+1) A));have O8:=ae (aG (R:=w.heap.size+1) (j:=5) (qt OA H d (by decide)) (by omega) (Z B (k+1) A));have P8:=ae (aG (R:=w.heap.size+1) (j:=5) s (by omega) (Z B (k+1) A));have B8:=ae ((bg BA d BA.size (fun j e=>by have:=(H.lt j e).1;omega)).setCell (p:=(J (w.heap.size+1) 5 Y)) (AS _) (Z B (k+1) A));clear s d);exact⟨⟨k+1,B,A,by omega,by go_num,X8,Y8,O8,P8,B8⟩,by simp[intOf];omega⟩
  ·have e:k=m:=by omega
   subst e;obtain⟨e0,_⟩:=QO.c0;obtain⟨e1,_⟩:=QO.c1;obtain⟨e2,_⟩:=QO.c2;obtain⟨e3,_⟩:=QO.c3;obtain⟨e4,_⟩:=QO.c4;obtain⟨e5,_⟩:=QO.c5;obtain⟨r0,q0⟩:=QN.c0;obtain⟨r1,q1⟩:=QN.c1;obtain⟨r2,q2⟩:=QN.c2;obtain⟨r3,q3⟩:=QN.c3;obtain⟨r4,q4⟩:=QN.c4;obtain⟨r5,q5⟩:=QN.c5;have OF:=ae (aG (aG (aG (aG (aG (aG O5 (R:=w.heap.size) (j:=0) (by omega) (U x.name)) (R:=w.heap.size) (j:=1) (by omega) (Q I x.kind)) (R:=w.heap.size) (j:=2) (by omega) (Q I x.code)) (R:=w.heap.size) (j:=3) (by omega) (U x.text)) (R:=w.heap.size) (j:=4) (by omega) (Z z n t)) (R:=w.heap.size) (j:=5) (by omega) (Z C k c5));have PF:=ae (aG (aG (aG (aG (aG (aG P5 (R:=w.heap.size) (j:=0) (by omega) (U x.name)) (R:=w.heap.size) (j:=1) (by omega) (Q I x.kind)) (R:=w.heap.size) (j:=2) (by omega) (Q I x.code)) (R:=w.heap.size) (j:=3) (by omega) (U x.text)) (R:=w.heap.size) (j:=4) (by omega) (Z z n t)) (R:=w.heap.size) (j:=5) (by omega) (Z C k c5));have BF:=ae ((((((B5.setCell (p:=(J w.heap.size 0 Y)) lr (U x.name)).setCell (p:=(J w.heap.size 1 Y)) lr (Q I x.kind)).setCell (p:=(J w.heap.size 2 Y)) lr (Q I x.code)).setCell (p:=(J w.heap.size 3 Y)) lr (U x.text)).setCell (p:=(J w.heap.size 4 Y)) lr (Z z n t)).setCell (p:=(J w.heap.size 5 Y)) lr (Z C k c5));go_wp2;refine bp (v:=QE #[U x.name,Q I x.kind,Q I x.code,U x.text,Z z n t,Z C k c5]) (by simp[results,Tryz.results93,go_sem,r0,r1,r2,r3,r4,r5]) rfl ⟨_,_,rfl,⟨?_,?_⟩,BF⟩
   ·show World.ownsRow _ w.heap.size 188 3 (Z z n t) (bW S x) (cB (S.f1 x.tg).act (bW S x))
    rw[<-HN.out];exact aI OF (by omega)
   ·show World.ownsRow _ w.heap.size 64 4 (Z C k c5) x.looks.length (jC (lkF o x.looks) x.looks.length)
    rw[DD,<-HM.out];have h:=PF.out;rw[IZ (by rw[<-HM.out];exact j6 _)] at h;exact aI h (by omega)
end Go.Proofs.YtkdimgejdocbbaaGreatDoor.Vp
