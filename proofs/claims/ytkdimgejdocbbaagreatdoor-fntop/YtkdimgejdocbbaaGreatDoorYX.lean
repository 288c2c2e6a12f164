import Derived.Test.YtkdimgejdocbbaaGreatDoorYT
import Derived.Test.YtkdimgejdocbbaaGreatDoorZA
set_option maxRecDepth 100000
set_option maxHeartbeats 8000000
open Go.Addr renaming mk->J
open Go.Value renaming slice->Y,string->U,int->N,agg->QE
open Option renaming none->Z,some->Q
open Go.Obj renaming cells->T
open Go.IntKind renaming i64->I
open Go renaming World->E
open Bool renaming false->D
open Go.Ending renaming returned->QD
namespace Go.Proofs.YtkdimgejdocbbaaGreatDoor.Vp
open RowKit Ca
def DF (w:E)(e:Ending)(b:E):Prop:=∃ (a0:Option Addr) (n0 c0:Nat) (f0:Nat->Source) (a1:Option Addr) (n1 c1:Nat) (f1:Nat->Target),e=QD (QE #[Y a0 n0 c0,Y a1 n1 c1])/\HSp w.heap.size b a0 n0 f0 a1 n1 f1/\Below w.heap.size w b
theorem xq (b0 n0 c0 n1 c1:Nat)(a0:Option Addr)(f0:Nat->Source)(a1:Option Addr)(f1:Nat->Target)(m:Int)(w:E)(h0:0<=m)(h1:m<=1)(hH:HSp b0 w a0 n0 f0 a1 n1 f1):Calls Tryz.prog 59 #[QE #[Y a0 n0 c0,Y a1 n1 c1],N I m] w fun e w'=>DF w e w':=by
 have hn0:=hH.hn0;have hn1:=hH.hn1;obtain⟨QH,ht⟩:=hH.sl w (Agr.refl _ _);have R:=ae hH.fit;have f:=ae QH;have HT:=ae ht;clear QH ht hH;obtain⟨la,l,n9,n8,aq⟩:=IQ ft;have QQ:=ae (((Qs w).alloc lr (T #[Y a0 n0 c0,Y a1 n1 c1] 26)).alloc (by simp) (T #[Y Z 0 0,Y Z 0 0] 26));have fd:((w.alloc (T #[Y a0 n0 c0,Y a1 n1 c1] 26)).alloc (T #[Y Z 0 0,Y Z 0 0] 26)).heap.size=w.heap.size+2:=by simp
 have P:Hid (((w.alloc (T #[Y a0 n0 c0,Y a1 n1 c1] 26)).alloc (T #[Y Z 0 0,Y Z 0 0] 26)).heap[w.heap.size+1]?=Q (T #[Y Z 0 0,Y Z 0 0] 26 (0,0))):=by have h2:=eL (w.alloc (T #[Y a0 n0 c0,Y a1 n1 c1] 26)) (T #[Y Z 0 0,Y Z 0 0] 26);rw[show(w.alloc (T #[Y a0 n0 c0,Y a1 n1 c1] 26)).heap.size=w.heap.size+1 by simp] at h2;exact h2
 go_enter Tryz.func59,Tryz.ntmps59;go_wp2_with fail;generalize (w.alloc (T #[Y a0 n0 c0,Y a1 n1 c1] 26)).alloc (T #[Y Z 0 0,Y Z 0 0] 26)=W at QQ fd P ⊢;refine(fM a0 n0 c0 f0 a1 n1 c1 f1 ⟨#[]⟩ W (by omega) (by omega) (f.below QQ lr) (HT.below QQ lr) (fun i hi=>by have:=(R i hi).1;unfold aS;omega)).mono ?_;rintro e QN ⟨v0,QK,QJ,rfl,B,QP,hM,A⟩;obtain⟨y,c2,rfl⟩:=bh B;obtain⟨X,c3,rfl⟩:=bh QP.own;have G1:=ae (vd hM R);have hl1:=oL hM;have n6:=ia f0 ⟨#[]⟩ n0;clear hM f HT R;generalize keepS f0 ⟨#[]⟩ n0=o at B n6 ⊢;have hsz:=A.size;have X1:=ae (pw (rr:=w.heap.size+1) (base:=w.heap.size+2) ((A.block _ (by omega)).trans P) (by omega) (by omega) (by omega) B QP);have B1:=ae ((QQ.trans (A.mono (by omega))).alloc (by omega) (T #[Y y o.length c2,Y X QJ.length c3] 26));clear B QP A QQ P;have hw2:IntKind.i64.wrap (200 - m)=200 - m:=by rw[p9];omega
 go_wp2_with fail;generalize QN.alloc (T #[Y y o.length c2,Y X QJ.length c3] 26)=W2 at X1 B1 ⊢;go_loopw [6] (fun i wr=>∃ (k:Nat) (QK:Value) (b:List TR),i=N I k/\k<=b.length/\b.length<=300/\Hid (SpX (w.heap.size+1) QN.heap.size (w.heap.size+2) wr (Y y o.length c2) QK o b)/\Hid (GX b)/\Hid (Below w.heap.size w wr)) (fun i _=>400 - (intOf i).toNat);case atStart=>exact⟨0,_,QJ,rfl,by omega,by omega,X1,G1,B1⟩
 case round =>
  obtain⟨k,QK,b,rfl,hk,mv,q,G2,B2⟩:=hrel;obtain⟨G,c5,rfl⟩:=bh q.tgt.own;obtain⟨QG,bt⟩:=q.cells;have hxl:=q.lt;have hw1:IntKind.i64.wrap ((o.length:Int)+b.length)=(o.length:Int)+b.length:=by rw[p9];omega
  by_cases hlt:(o.length:Int)+b.length<200 - m
  ·have hwk:IntKind.i64.wrap ((k:Int)+1)=(k:Int)+1:=by rw[p9];omega
   go_wp2_with fail;clear QG bt;have t:=ae q.keepT;refine bm (BxT (Y y o.length c2) (Y G b.length c5) QN.heap.size) 13 (by as_aux_lemma=>kernel_rfl) ?_;have f:=ae (t wr.drew (fun j l _=>rfl))
   iterate 3
    refine bw 0 (v:=?_) rfl rfl (by as_aux_lemma=>kernel_rfl) (fun _ _ _ h=>h) rfl ?_ f ?_;rotate_left
    ·(intro wz n7;obtain⟨s0,s1⟩:=n7;go_simp)
     (try with_reducible rfl)
    (try simp only[Act.put,nzL])
   refine ar (i:=3) rfl (by as_aux_lemma=>kernel_rfl) (fun K d=>?_);go_simp;go_at_call 141;refine(gQ k (by omega) _).mono ?_;rintro e wl ⟨lb,rfl,hlb,QM⟩;have H:Hid (Below wr.heap.size wr wl):=(Qs wr).drew.trans QM;clear QM f;have f:=ae (t wl (fun j l _=>H.block j l));refine d _ _ (fun _=>f) ?_;clear d K
   (try simp only[Act.put,nzL])
   refine eK (i:=4) (v:=U (⟨#[118]⟩++lb)) rfl (by as_aux_lemma=>kernel_rfl) (by as_aux_lemma=>kernel_rfl) (by as_aux_lemma=>kernel_rfl) (by as_aux_lemma=>kernel_rfl) (fun _ _ _ h=>h) rfl ?_ f ?_
   ·intro wz _
    go_simp;omega
   (try simp only[Act.put,nzL])
   generalize (⟨#[118]⟩:ByteArray)++lb=C;refine ar (i:=5) rfl (by as_aux_lemma=>kernel_rfl) (fun K d=>?_);go_simp;go_at_call 142;refine(bB _ _).mono ?_;rintro e wm ⟨rfl,O⟩;have QO:=ae (H.trans (O.mono H.size));clear O f;have f:=ae (t wm (fun j l _=>QO.block j l));refine d _ _ (fun _=>f) ?_;clear d K
   (try simp only[Act.put,nzL])
   refine ar (i:=6) rfl (by as_aux_lemma=>kernel_rfl) (fun K d=>?_);go_simp;go_at_call 143;refine(bn _ _).mono ?_;rintro e n ⟨rfl,M⟩;have V:=ae (QO.trans (M.mono QO.size));clear M f H QO;have hzn:=V.size;have BI:=ae (V.alloc (by omega) (T #[N I 1,U ⟨#[107]⟩,N I 0,N I 15,U ⟨#[]⟩,N I 0] 188));have hxi:=q.hi;have OI:=ae (pu n (base:=w.heap.size+2) (by omega));have f:=ae (t n (fun j l _=>V.block j l));refine d _ _ (fun _=>f) ?_;clear d K f
   (try simp only[Act.put,nzL])
   have f:=ae (t _ (fun j l _=>BI.block j l))
   iterate 3
    refine df 7 rfl rfl (by as_aux_lemma=>kernel_rfl) (fun K d=>?_);go_simp;refine d _ _ (fun _=>f) ?_;clear d K
    (try simp only[Act.put,nzL])
   have ld:(n.alloc (T #[N I 1,U ⟨#[107]⟩,N I 0,N I 15,U ⟨#[]⟩,N I 0] 188)).heap.size=n.heap.size+1:=by simp
   have AB:=ae (BI.alloc (by omega) (T #[U C,Y (Q (J n.heap.size 0 Z)) 2 2] 108));refine ar (i:=10) rfl (by as_aux_lemma=>kernel_rfl) (fun K d=>?_);go_simp;have L:=ae (q.below AB lr);have OA:=ae (own_below OI (br.alloc lr (T #[U C,Y (Q (J n.heap.size 0 Z)) 2 2] 108)) lr);refine d _ _ (fun _=>t _ (fun j l _=>AB.block j l)) ?_;clear d K
   (try simp only[Act.put,nzL])
   refine ar (i:=11) rfl (by as_aux_lemma=>kernel_rfl) (fun K d=>?_);refine bA rfl (.tmp 22) (.tmp 31) 24 rfl (w.heap.size+2) 108 la (QE #[U ⟨#[]⟩,Y Z 0 0]) 2 40 Tryz.underlying24 l n9 n8 aq rfl (by decide) (Y G b.length c5) b.length (b.flatMap aV) (by simp[Act.eval]) L.tgt.own (J (n.heap.size+1) 0 Z) 1 1 (aV (⟨C,2,lsI gv⟩,n.heap.size,2)) (by simp[Act.eval]) rfl (fun j u hu=>kO (ld) _ _ _ j u hu) (by simp[aV,Value.oneCell']) (by unfold maxLen;omega) (by omega) (by have:=L.hi;have:=L.lt;omega) ?_;intro v' w7 z s _;obtain⟨a7,c7,rfl⟩:=bh z;have S:=ae (t w7 (fun j l ex=>(s.block j (ll l AB.size) ex).trans (AB.block j l)));obtain⟨c8,b8⟩:=L.addT (x:=⟨C,2,lsI gv⟩) (g:=n.heap.size) (c:=2) (fun r hr e=>by have:=q.tgt.ltg r hr;omega) OA z s;have X9:=ae c8;have B9:=ae b8;clear z s c8 b8;refine d _ _ (fun _=>S) ?_;clear d K
   (try simp only[Act.put,nzL])
   refine ar (i:=12) rfl (by as_aux_lemma=>kernel_rfl) (fun K d=>?_);go_simp;refine d _ _ (fun _=>S) ?_;clear d K
   (try simp only[Act.put,nzL])
   obtain⟨QL,t7⟩:=S.out;have f7:w7.frozen? (J QN.heap.size 1 Z)=D:=by simp[World.frozen?,QL]
   have l7:=aC QL;clear QL;refine ar (i:=13) rfl (by as_aux_lemma=>kernel_rfl) (fun K d=>?_);go_simp;refine d _ _ (fun h=>absurd rfl h) ?_;clear d K
   (try simp only[Act.put,nzL])
   refine bJ (by as_aux_lemma=>kernel_rfl) ?_ _;go_wp2;have BB:=ae ((AB.mono (show w.heap.size+2<=wr.heap.size by omega)).trans B9.out);refine⟨⟨k+1,Y a7 (b.length+1) c7,b++[((⟨C,2,lsI gv⟩,n.heap.size,2):TR)],by go_num,by rw[cM];exact Nat.succ_le_succ hk,by rw[cM];exact(by omega:b.length+1<=300),X9,G2.add (r:=(⟨C,2,lsI gv⟩,n.heap.size,2)) (by show 2<=300;omega) nG,B2.trans (BB.mono (by omega))⟩,by simp[intOf];omega⟩
  ·have kr:=q.res
   have r0:wr.cell? (J (w.heap.size+1) 0 Z)=Q (Y Z 0 0):=by simp[World.cell?,kr]
   have r1:wr.cell? (J (w.heap.size+1) 1 Z)=Q (Y Z 0 0):=by simp[World.cell?,kr]
   have f0:wr.frozen? (J (w.heap.size+1) 0 Z)=D:=by simp[World.frozen?,kr]
   have f1:wr.frozen? (J (w.heap.size+1) 1 Z)=D:=by simp[World.frozen?,kr]
   have l0:=aC kr;clear kr;have BE:=ae ((B2.setCell (p:=(J (w.heap.size+1) 0 Z)) (AS _) (Y y o.length c2)).setCell (p:=(J (w.heap.size+1) 1 Z)) (AS _) (Y G b.length c5));have HE:=ae ((q.fin rfl rfl (by omega) mv G2 (Y y o.length c2) (Y G b.length c5)).mono (show w.heap.size<=w.heap.size+2 by omega));go_wp2;exact bp (v:=QE #[Y y o.length c2,Y G b.length c5]) (by simp[results,Tryz.results59,go_sem,r0,r1]) rfl ⟨_,_,_,_,_,_,_,_,rfl,HE,BE⟩
def DFn (n:Nat)(w:E)(e:Ending)(d:E):Prop:=∃ (a0:Option Addr) (n0 c0:Nat) (f0:Nat->Source) (a1:Option Addr) (c1:Nat) (b:List TR),e=QD (QE #[Y a0 n0 c0,Y a1 b.length c1])/\b.length=n/\HSp w.heap.size d a0 n0 f0 a1 b.length (bo (b.map (·.1)))/\TRow d (w.heap.size+1) (Y a1 b.length c1) b/\GX b/\(∀ r∈b,r.1.name.size<=5000)/\Below w.heap.size w d
theorem un (n:Nat)(hn:n<=200)(en:ByteArray)(he:en.size<=5000)(w:E):Calls Tryz.prog 138 #[N I n,U en] w fun e w'=>DFn n w e w':=by
 obtain⟨la,f,ph,n6,bt⟩:=IQ ft;have QG:(w.alloc (T #[Y Z 0 0,Y Z 0 0] 26)).heap.size=w.heap.size+1:=by simp
 have S:((w.alloc (T #[Y Z 0 0,Y Z 0 0] 26)).alloc (T #[U ⟨#[97]⟩,U ⟨#[103,114,111,117,110,100]⟩] 104)).heap.size=w.heap.size+1+1:=by simp
 have A0:=ae (((((Qs w).alloc lr (T #[Y Z 0 0,Y Z 0 0] 26))).alloc (by omega) (T #[U ⟨#[97]⟩,U ⟨#[103,114,111,117,110,100]⟩] 104)).alloc (by omega) (T #[Y (Q (J (w.heap.size+1) 0 Z)) 1 1,Y Z 0 0] 26));have X1:Hid (SpX w.heap.size (w.heap.size+1+1) (w.heap.size+1) (((w.alloc (T #[Y Z 0 0,Y Z 0 0] 26)).alloc (T #[U ⟨#[97]⟩,U ⟨#[103,114,111,117,110,100]⟩] 104)).alloc (T #[Y (Q (J (w.heap.size+1) 0 Z)) 1 1,Y Z 0 0] 26)) (Y (Q (J (w.heap.size+1) 0 Z)) 1 1) (Y Z 0 0) [⟨⟨#[97]⟩,⟨#[103,114,111,117,110,100]⟩⟩] []):=by have k1:=eL w (T #[Y Z 0 0,Y Z 0 0] 26);have k2:=eL (w.alloc (T #[Y Z 0 0,Y Z 0 0] 26)) (T #[U ⟨#[97]⟩,U ⟨#[103,114,111,117,110,100]⟩] 104);rw[QG] at k2;have BQ:=(eI (w.heap.size+1) (w.alloc (T #[Y Z 0 0,Y Z 0 0] 26))).alloc (by omega) (T #[U ⟨#[97]⟩,U ⟨#[103,114,111,117,110,100]⟩] 104);have h:=pw (LS:=[⟨⟨#[97]⟩,⟨#[103,114,111,117,110,100]⟩⟩]) (base:=w.heap.size+1) (base':=w.heap.size+1) ((BQ.block w.heap.size (lj _)).trans k1) (lj _) lr (by omega) (v0:=Y (Q (J (w.heap.size+1) 0 Z)) 1 1) ⟨rfl,.inr ⟨w.heap.size+1,1,_,rfl,j6 _,k2,j6 _,by unfold maxLen;omega,rfl,rfl⟩⟩ (dT _ _);rw[S] at h;exact h
 have hw2:IntKind.i64.wrap ((n:Int) - 1)=(n:Int) - 1:=by rw[p9];omega
 clear QG S;go_enter Tryz.func138,Tryz.ntmps138;go_wp2_with fail;generalize ((w.alloc (T #[Y Z 0 0,Y Z 0 0] 26)).alloc (T #[U ⟨#[97]⟩,U ⟨#[103,114,111,117,110,100]⟩] 104)).alloc (T #[Y (Q (J (w.heap.size+1) 0 Z)) 1 1,Y Z 0 0] 26)=W2 at X1 A0 ⊢;obtain⟨o,A,c2,ex,X⟩:∃ (o:List Source) (A:Option Addr) (c2:Nat),o.length<=300/\Hid (SpX w.heap.size (w.heap.size+1+1) (w.heap.size+1) W2 (Y A o.length c2) (Y Z 0 0) o []):=⟨[⟨⟨#[97]⟩,⟨#[103,114,111,117,110,100]⟩⟩],Q (J (w.heap.size+1) 0 Z),1,by show 1<=300;omega,X1⟩
 clear X1;generalize n9:w.heap.size+1+1=xb at X ⊢;clear n9;go_loopw [6] (fun i wr=>∃ (k:Nat) (v1:Value) (d:List TR),i=N I k/\k<=n/\d.length=k/\Hid (SpX w.heap.size xb (w.heap.size+1) wr (Y A o.length c2) v1 o d)/\Hid (GX d)/\Hid (∀ r∈d,r.1.name.size<=5000)/\Hid (Below w.heap.size w wr)) (fun i _=>n - (intOf i).toNat);case atStart=>exact⟨0,_,[],rfl,by omega,rfl,X,fun _ h=>absurd h nj,fun _ h=>absurd h nj,A0⟩
 case round =>
  obtain⟨k,v1,d,rfl,hk,QH,QP,G2,N2,B2⟩:=hrel;have HK:Hid (d.length=k):=QH;obtain⟨QO,c5,rfl⟩:=bh QP.tgt.own;obtain⟨QL,W⟩:=QP.cells;have mv:=QP.lt;have hrn:d.length<=200:=by omega
  clear QH;by_cases hlt:k<n
  ·have hwk:IntKind.i64.wrap ((k:Int)+1)=(k:Int)+1:=by rw[p9];omega
   go_wp2_with fail;refine(gQ (k+1) (by omega) _).mono ?_;rintro e H ⟨nb,rfl,hnb,L⟩;have G:=ae (QP.below L lr);have B3:=ae (B2.trans (L.mono B2.size));obtain⟨QL,W⟩:=G.cells;have mv:=G.lt;clear L;by_cases QK:(n:Int) - 1=(k:Int)
   case' pos =>
    go_wp2_with fail;obtain⟨s,m⟩:∃ z,z=en:=⟨_,rfl⟩
    have n7:s.size<=5000:=by rw[m];omega
   case' neg =>
    have fd:¬ (k:Int)=(n:Int) - 1:=fun e=>QK e.symm;clear QK;go_wp2_with fail;clear fd;obtain⟨s,m⟩:∃ z,z=nb:=⟨_,rfl⟩
    have n7:s.size<=5000:=by rw[m];omega
   all_goals
    rw[<-m];have HZ:=ae m;clear m;clear QL W;have y:=ae G.keepT;refine bm (BxT (Y A o.length c2) (Y QO d.length c5) xb) 14 (by as_aux_lemma=>kernel_rfl) ?_;have l:=ae (y H.drew (fun j f _=>rfl))
    iterate 3
     refine bw 0 (v:=?_) rfl rfl (by as_aux_lemma=>kernel_rfl) (fun _ _ _ h=>h) rfl ?_ l ?_;rotate_left
     ·(intro wz QN;obtain⟨s0,s1⟩:=QN;go_simp)
      (try with_reducible rfl)
     (try simp only[Act.put,nzL])
    refine bw 4 (v:=?_) rfl rfl (by as_aux_lemma=>kernel_rfl) (fun _ _ _ h=>h) rfl ?_ l ?_;rotate_left
    ·(intro wz QN;obtain⟨s0,s1⟩:=QN;go_simp)
     (try with_reducible rfl)
    (try simp only[Act.put,nzL])
    refine ar (i:=3) rfl (by as_aux_lemma=>kernel_rfl) (fun K b=>?_);go_simp;go_at_call 141;refine(gQ k (by omega) _).mono ?_;rintro e wl ⟨B,rfl,htn,aq⟩;have M:Hid (Below H.heap.size H wl):=(Qs H).drew.trans aq;clear aq l;have l:=ae (y wl (fun j f _=>M.block j f));refine b _ _ (fun _=>l) ?_;clear b K
    (try simp only[Act.put,nzL])
    refine ar (i:=5) rfl (by as_aux_lemma=>kernel_rfl) (fun K b=>?_);go_simp;go_at_call 142;refine(bB _ _).mono ?_;rintro e wm ⟨rfl,V⟩;have QM:=ae (M.trans (V.mono M.size));clear V l;have l:=ae (y wm (fun j f _=>QM.block j f));refine b _ _ (fun _=>l) ?_;clear b K
    (try simp only[Act.put,nzL])
    refine ar (i:=6) rfl (by as_aux_lemma=>kernel_rfl) (fun K b=>?_);go_simp;go_at_call 143;refine(bn _ _).mono ?_;rintro e wo ⟨rfl,QJ⟩;have O:=ae (QM.trans (QJ.mono QM.size));clear QJ l;have l:=ae (y wo (fun j f _=>O.block j f));refine b _ _ (fun _=>l) ?_;clear b K
    (try simp only[Act.put,nzL])
    refine ar (i:=7) rfl (by as_aux_lemma=>kernel_rfl) (fun K b=>?_);go_simp;go_at_call 143;refine(bn _ _).mono ?_;rintro e q ⟨rfl,R⟩;have BN:=ae (O.trans (R.mono O.size));clear R l M QM O;have hzn:=BN.size;have BI:=ae (BN.alloc (by omega) (T #[N I 1,U s,N I 0,N I 12,U ⟨#[]⟩,N I 0,N I 15,U ⟨#[]⟩,N I 0] 188));have hxi:=G.hi;have OI:=ae (yN q s (base:=w.heap.size+1) (by omega));have l:=ae (y q (fun j f _=>BN.block j f));refine b _ _ (fun _=>l) ?_;clear b K l
    (try simp only[Act.put,nzL])
    have l:=ae (y _ (fun j f _=>BI.block j f))
    iterate 3
     refine df 8 rfl rfl (by as_aux_lemma=>kernel_rfl) (fun K b=>?_);go_simp;refine b _ _ (fun _=>l) ?_;clear b K
     (try simp only[Act.put,nzL])
    have ld:(q.alloc (T #[N I 1,U s,N I 0,N I 12,U ⟨#[]⟩,N I 0,N I 15,U ⟨#[]⟩,N I 0] 188)).heap.size=q.heap.size+1:=by simp
    have AB:=ae (BI.alloc (by omega) (T #[U B,Y (Q (J q.heap.size 0 Z)) 3 3] 108));refine ar (i:=11) rfl (by as_aux_lemma=>kernel_rfl) (fun K b=>?_);go_simp;have P:=ae (G.below AB lr);have OA:=ae (own_below OI (br.alloc lr (T #[U B,Y (Q (J q.heap.size 0 Z)) 3 3] 108)) lr);refine b _ _ (fun _=>y _ (fun j f _=>AB.block j f)) ?_;clear b K
    (try simp only[Act.put,nzL])
    refine ar (i:=12) rfl (by as_aux_lemma=>kernel_rfl) (fun K b=>?_);refine bA rfl (.tmp 25) (.tmp 35) 24 rfl (w.heap.size+1) 108 la (QE #[U ⟨#[]⟩,Y Z 0 0]) 2 40 Tryz.underlying24 f ph n6 bt rfl (by decide) (Y QO d.length c5) d.length (d.flatMap aV) (by simp[Act.eval]) P.tgt.own (J (q.heap.size+1) 0 Z) 1 1 (aV (⟨B,3,lsI (ie s)⟩,q.heap.size,3)) (by simp[Act.eval]) rfl (fun j u hu=>kO (ld) _ _ _ j u hu) (by simp[aV,Value.oneCell']) (by unfold maxLen;omega) (by omega) (by have:=P.hi;have:=P.lt;omega) ?_;intro v' w7 C t _;obtain⟨a7,c7,rfl⟩:=bh C;have S7:=ae (y w7 (fun j f n8=>(t.block j (ll f AB.size) n8).trans (AB.block j f)));obtain⟨c8,b8⟩:=P.addT (x:=⟨B,3,lsI (ie s)⟩) (g:=q.heap.size) (c:=3) (fun r QQ e=>by have:=G.tgt.ltg r QQ;omega) OA C t;have X9:=ae c8;have B9:=ae b8;clear C t c8 b8;refine b _ _ (fun _=>S7) ?_;clear b K
    (try simp only[Act.put,nzL])
    refine ar (i:=13) rfl (by as_aux_lemma=>kernel_rfl) (fun K b=>?_);go_simp;refine b _ _ (fun _=>S7) ?_;clear b K
    (try simp only[Act.put,nzL])
    obtain⟨s7,t7⟩:=S7.out;have f7:w7.frozen? (J xb 1 Z)=D:=by simp[World.frozen?,s7]
    have l7:=aC s7;clear s7;refine ar (i:=14) rfl (by as_aux_lemma=>kernel_rfl) (fun K b=>?_);go_simp;refine b _ _ (fun h=>absurd rfl h) ?_;clear b K
    (try simp only[Act.put,nzL])
    refine bJ (by as_aux_lemma=>kernel_rfl) ?_ _;have m:=HZ.out;subst m;go_wp2;have BB:=ae ((AB.mono (show w.heap.size+1<=H.heap.size by omega)).trans B9.out)
    refine⟨⟨k+1,Y a7 (d.length+1) c7,d++[((⟨B,3,lsI (ie s)⟩,q.heap.size,3):TR)],by go_num,by omega,by rw[cM,HK.out];rfl,X9,G2.add (r:=(⟨B,3,lsI (ie s)⟩,q.heap.size,3)) (by show 3<=300;omega) (xn (by omega)),(fun r QQ=>by
     rcases kP.1 QQ with QQ | QQ
     ·exact N2 r QQ
     ·rw[j3.1 QQ];show B.size<=5000;omega),B3.trans (BB.mono (by omega))⟩,by simp[intOf];omega⟩
  ·obtain rfl:k=n:=by omega
   have kr:=QP.res;have r0:wr.cell? (J w.heap.size 0 Z)=Q (Y Z 0 0):=by simp[World.cell?,kr]
   have r1:wr.cell? (J w.heap.size 1 Z)=Q (Y Z 0 0):=by simp[World.cell?,kr]
   have f0:wr.frozen? (J w.heap.size 0 Z)=D:=by simp[World.frozen?,kr]
   have f1:wr.frozen? (J w.heap.size 1 Z)=D:=by simp[World.frozen?,kr]
   have l0:=aC kr;clear kr;have BE:=ae ((B2.setCell (p:=(J w.heap.size 0 Z)) lr (Y A o.length c2)).setCell (p:=(J w.heap.size 1 Z)) lr (Y QO d.length c5));have HE:=ae ((QP.fin rfl rfl ex (by omega) G2 (Y A o.length c2) (Y QO d.length c5)).mono (AS w.heap.size));have TE:=ae ((QP.tgt.set (j:=0) (lj _) (Y A o.length c2)).set (j:=1) (lj _) (Y QO d.length c5));go_wp2;exact bp (v:=QE #[Y A o.length c2,Y QO d.length c5]) (by simp[results,Tryz.results138,go_sem,r0,r1]) rfl ⟨_,_,_,_,_,_,_,rfl,HK,HE,TE,G2,N2,BE⟩
theorem uo (n:Nat)(g:n<=200)(b:ByteArray)(i:b.size<=5000)(w:E):Calls Tryz.prog 138 #[N I n,U b] w fun e h=>DF w e h :=
 (un n g b i w).mono fun _ _ ⟨a0,n0,c0,f0,a1,c1,d,h1,_,h2,_,_,_,f⟩=>⟨a0,n0,c0,f0,a1,d.length,c1,_,h1,h2,f⟩
end Go.Proofs.YtkdimgejdocbbaaGreatDoor.Vp
