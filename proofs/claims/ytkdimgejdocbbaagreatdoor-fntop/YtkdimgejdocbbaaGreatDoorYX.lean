import Derived.Test.YtkdimgejdocbbaaGreatDoorYT
import Derived.Test.YtkdimgejdocbbaaGreatDoorZA
set_option maxRecDepth 100000
set_option maxHeartbeats 8000000
open Go.Addr renaming mk->J
open Go.Value renaming slice->Z,string->U,int->Q,agg->QE
open Option renaming none->Y,some->N
open Go.Obj renaming cells->T
open Go.IntKind renaming i64->I
open Go renaming World->E
open Bool renaming false->D
open Go.Ending renaming returned->QD
namespace Go.Proofs.YtkdimgejdocbbaaGreatDoor.Vp
open RowKit Ca
def DF (w:E)(e:Ending)(b:E):Prop:=∃ (a0:Option Addr) (n0 c0:Nat) (f0:Nat->Source) (a1:Option Addr) (n1 c1:Nat) (f1:Nat->Target),e=QD (QE #[Z a0 n0 c0,Z a1 n1 c1])/\HSp w.heap.size b a0 n0 f0 a1 n1 f1/\Below w.heap.size w b
theorem xq (b0 n0 c0 n1 c1:Nat)(a0:Option Addr)(f0:Nat->Source)(a1:Option Addr)(f1:Nat->Target)(m:Int)(w:E)(h0:0<=m)(h1:m<=1)(hH:HSp b0 w a0 n0 f0 a1 n1 f1):Calls Tryz.prog 59 #[QE #[Z a0 n0 c0,Z a1 n1 c1],Q I m] w fun e w'=>DF w e w':=by
 have hn0:=hH.hn0;have hn1:=hH.hn1;obtain⟨hs,ht⟩:=hH.sl w (Agr.refl _ _);have QK:=ae hH.fit;have f:=ae hs;have HT:=ae ht;clear hs ht hH;obtain⟨QH,l,aq,mv,n8⟩:=IS ft;have QP:=ae (((Qs w).alloc lr (T #[Z a0 n0 c0,Z a1 n1 c1] 26)).alloc (by simp) (T #[Z Y 0 0,Z Y 0 0] 26));have n6:((w.alloc (T #[Z a0 n0 c0,Z a1 n1 c1] 26)).alloc (T #[Z Y 0 0,Z Y 0 0] 26)).heap.size=w.heap.size+2:=by simp
 have P:Hid (((w.alloc (T #[Z a0 n0 c0,Z a1 n1 c1] 26)).alloc (T #[Z Y 0 0,Z Y 0 0] 26)).heap[w.heap.size+1]?=N (T #[Z Y 0 0,Z Y 0 0] 26 (0,0))):=by have h2:=eL (w.alloc (T #[Z a0 n0 c0,Z a1 n1 c1] 26)) (T #[Z Y 0 0,Z Y 0 0] 26);rw[show(w.alloc (T #[Z a0 n0 c0,Z a1 n1 c1] 26)).heap.size=w.heap.size+1 by simp] at h2;exact h2
 go_enter Tryz.func59,Tryz.ntmps59;go_wp2_with fail;generalize (w.alloc (T #[Z a0 n0 c0,Z a1 n1 c1] 26)).alloc (T #[Z Y 0 0,Z Y 0 0] 26)=W at QP n6 P ⊢;refine(fM a0 n0 c0 f0 a1 n1 c1 f1 ⟨#[]⟩ W (by omega) (by omega) (f.below QP lr) (HT.below QP lr) (fun i hi=>by have:=(QK i hi).1;unfold aS;omega)).mono ?_;rintro e QO ⟨v0,QJ,S,rfl,B,G,hM,A⟩;obtain⟨z,c2,rfl⟩:=bh B;obtain⟨a3,c3,rfl⟩:=bh G.own;have G1:=ae (vd hM QK);have hl1:=oL hM;have fd:=ia f0 ⟨#[]⟩ n0;clear hM f HT QK;generalize keepS f0 ⟨#[]⟩ n0=o at B fd ⊢;have hsz:=A.size;have X1:=ae (pw (rr:=w.heap.size+1) (base:=w.heap.size+2) ((A.block _ (by omega)).trans P) (by omega) (by omega) (by omega) B G);have X:=ae ((QP.trans (A.mono (by omega))).alloc (by omega) (T #[Z z o.length c2,Z a3 S.length c3] 26));clear B G A QP P;have hw2:IntKind.i64.wrap (200 - m)=200 - m:=by rw[vF];omega
 go_wp2_with fail;generalize QO.alloc (T #[Z z o.length c2,Z a3 S.length c3] 26)=W2 at X1 X ⊢;go_loopw [6] (fun i wr=>∃ (k:Nat) (QJ:Value) (b:List TR),i=Q I k/\k<=b.length/\b.length<=300/\Hid (SpX (w.heap.size+1) QO.heap.size (w.heap.size+2) wr (Z z o.length c2) QJ o b)/\Hid (GX b)/\Hid (Below w.heap.size w wr)) (fun i _=>400 - (intOf i).toNat);case atStart=>exact⟨0,_,S,rfl,by omega,by omega,X1,G1,X⟩
 case round =>
  obtain⟨k,QJ,b,rfl,hk,n7,q,G2,B2⟩:=hrel;obtain⟨QQ,c5,rfl⟩:=bh q.tgt.own;obtain⟨QG,ex⟩:=q.cells;have hxl:=q.lt;have hw1:IntKind.i64.wrap ((o.length:Int)+b.length)=(o.length:Int)+b.length:=by rw[vF];omega
  by_cases hlt:(o.length:Int)+b.length<200 - m
  ·have hwk:IntKind.i64.wrap ((k:Int)+1)=(k:Int)+1:=by rw[vF];omega
   go_wp2_with fail;clear QG ex;have y:=ae q.keepT;refine bm (BxT (Z z o.length c2) (Z QQ b.length c5) QO.heap.size) 13 (by as_aux_lemma=>kernel_rfl) ?_;have f:=ae (y wr.drew (fun j l _=>rfl))
   iterate 3
    refine bw 0 (v:=?_) rfl rfl (by as_aux_lemma=>kernel_rfl) (fun _ _ _ h=>h) rfl ?_ f ?_;rotate_left
    ·(intro wz bt;obtain⟨s0,s1⟩:=bt;go_simp)
     (try with_reducible rfl)
    (try simp only[Act.put,nzL])
   refine ar (i:=3) rfl (by as_aux_lemma=>kernel_rfl) (fun K d=>?_);go_simp;go_at_call 141;refine(gQ k (by omega) _).mono ?_;rintro e wl ⟨lb,rfl,hlb,M⟩;have L:Hid (Below wr.heap.size wr wl):=(Qs wr).drew.trans M;clear M f;have f:=ae (y wl (fun j l _=>L.block j l));refine d _ _ (fun _=>f) ?_;clear d K
   (try simp only[Act.put,nzL])
   refine eK (i:=4) (v:=U (⟨#[118]⟩++lb)) rfl (by as_aux_lemma=>kernel_rfl) (by as_aux_lemma=>kernel_rfl) (by as_aux_lemma=>kernel_rfl) (by as_aux_lemma=>kernel_rfl) (fun _ _ _ h=>h) rfl ?_ f ?_
   ·intro wz _
    go_simp;omega
   (try simp only[Act.put,nzL])
   generalize (⟨#[118]⟩:ByteArray)++lb=C;refine ar (i:=5) rfl (by as_aux_lemma=>kernel_rfl) (fun K d=>?_);go_simp;go_at_call 142;refine(bB _ _).mono ?_;rintro e wm ⟨rfl,QL⟩;have H:=ae (L.trans (QL.mono L.size));clear QL f;have f:=ae (y wm (fun j l _=>H.block j l));refine d _ _ (fun _=>f) ?_;clear d K
   (try simp only[Act.put,nzL])
   refine ar (i:=6) rfl (by as_aux_lemma=>kernel_rfl) (fun K d=>?_);go_simp;go_at_call 143;refine(bn _ _).mono ?_;rintro e n ⟨rfl,O⟩;have V:=ae (H.trans (O.mono H.size));clear O f L H;have hzn:=V.size;have BI:=ae (V.alloc (by omega) (T #[Q I 1,U ⟨#[107]⟩,Q I 0,Q I 15,U ⟨#[]⟩,Q I 0] 188));have hxi:=q.hi;have OI:=ae (pu n (base:=w.heap.size+2) (by omega));have f:=ae (y n (fun j l _=>V.block j l));refine d _ _ (fun _=>f) ?_;clear d K f
   (try simp only[Act.put,nzL])
   have f:=ae (y _ (fun j l _=>BI.block j l))
   iterate 3
    refine df 7 rfl rfl (by as_aux_lemma=>kernel_rfl) (fun K d=>?_);go_simp;refine d _ _ (fun _=>f) ?_;clear d K
    (try simp only[Act.put,nzL])
   have ld:(n.alloc (T #[Q I 1,U ⟨#[107]⟩,Q I 0,Q I 15,U ⟨#[]⟩,Q I 0] 188)).heap.size=n.heap.size+1:=by simp
   have AB:=ae (BI.alloc (by omega) (T #[U C,Z (N (J n.heap.size 0 Y)) 2 2] 108));refine ar (i:=10) rfl (by as_aux_lemma=>kernel_rfl) (fun K d=>?_);go_simp;have QN:=ae (q.below AB lr);have OA:=ae (own_below OI (br.alloc lr (T #[U C,Z (N (J n.heap.size 0 Y)) 2 2] 108)) lr);refine d _ _ (fun _=>y _ (fun j l _=>AB.block j l)) ?_;clear d K
   (try simp only[Act.put,nzL])
   refine ar (i:=11) rfl (by as_aux_lemma=>kernel_rfl) (fun K d=>?_);refine bA rfl (.tmp 22) (.tmp 31) 24 rfl (w.heap.size+2) 108 QH (QE #[U ⟨#[]⟩,Z Y 0 0]) 2 40 Tryz.underlying24 l aq mv n8 rfl (by decide) (Z QQ b.length c5) b.length (b.flatMap aV) (by simp[Act.eval]) QN.tgt.own (J (n.heap.size+1) 0 Y) 1 1 (aV (⟨C,2,lsI gv⟩,n.heap.size,2)) (by simp[Act.eval]) rfl (fun j u hu=>kO (ld) _ _ _ j u hu) (by simp[aV,Value.oneCell']) (by unfold maxLen;omega) (by omega) (by have:=QN.hi;have:=QN.lt;omega) ?_;intro v' w7 t s _;obtain⟨a7,c7,rfl⟩:=bh t;have QM:=ae (y w7 (fun j l la=>(s.block j (ll l AB.size) la).trans (AB.block j l)));obtain⟨c8,b8⟩:=QN.addT (x:=⟨C,2,lsI gv⟩) (g:=n.heap.size) (c:=2) (fun r hr e=>by have:=q.tgt.ltg r hr;omega) OA t s;have X9:=ae c8;have B9:=ae b8;clear t s c8 b8;refine d _ _ (fun _=>QM) ?_;clear d K
   (try simp only[Act.put,nzL])
   refine ar (i:=12) rfl (by as_aux_lemma=>kernel_rfl) (fun K d=>?_);go_simp;refine d _ _ (fun _=>QM) ?_;clear d K
   (try simp only[Act.put,nzL])
   obtain⟨R,t7⟩:=QM.out;have f7:w7.frozen? (J QO.heap.size 1 Y)=D:=by simp[World.frozen?,R]
   have l7:=aC R;clear R;refine ar (i:=13) rfl (by as_aux_lemma=>kernel_rfl) (fun K d=>?_);go_simp;refine d _ _ (fun h=>absurd rfl h) ?_;clear d K
   (try simp only[Act.put,nzL])
   refine bJ (by as_aux_lemma=>kernel_rfl) ?_ _;go_wp2;have BB:=ae ((AB.mono (show w.heap.size+2<=wr.heap.size by omega)).trans B9.out);refine⟨⟨k+1,Z a7 (b.length+1) c7,b++[((⟨C,2,lsI gv⟩,n.heap.size,2):TR)],by go_num,by rw[cM];exact Nat.succ_le_succ hk,by rw[cM];exact(by omega:b.length+1<=300),X9,G2.add (r:=(⟨C,2,lsI gv⟩,n.heap.size,2)) (by show 2<=300;omega) nG,B2.trans (BB.mono (by omega))⟩,by simp[intOf];omega⟩
  ·have kr:=q.res
   have r0:wr.cell? (J (w.heap.size+1) 0 Y)=N (Z Y 0 0):=by simp[World.cell?,kr]
   have r1:wr.cell? (J (w.heap.size+1) 1 Y)=N (Z Y 0 0):=by simp[World.cell?,kr]
   have f0:wr.frozen? (J (w.heap.size+1) 0 Y)=D:=by simp[World.frozen?,kr]
   have f1:wr.frozen? (J (w.heap.size+1) 1 Y)=D:=by simp[World.frozen?,kr]
   have l0:=aC kr;clear kr;have BE:=ae ((B2.setCell (p:=(J (w.heap.size+1) 0 Y)) (AS _) (Z z o.length c2)).setCell (p:=(J (w.heap.size+1) 1 Y)) (AS _) (Z QQ b.length c5));have HE:=ae ((q.fin rfl rfl (by omega) n7 G2 (Z z o.length c2) (Z QQ b.length c5)).mono (show w.heap.size<=w.heap.size+2 by omega));go_wp2;exact bp (v:=QE #[Z z o.length c2,Z QQ b.length c5]) (by simp[results,Tryz.results59,go_sem,r0,r1]) rfl ⟨_,_,_,_,_,_,_,_,rfl,HE,BE⟩
def DFn (n:Nat)(w:E)(e:Ending)(d:E):Prop:=∃ (a0:Option Addr) (n0 c0:Nat) (f0:Nat->Source) (a1:Option Addr) (c1:Nat) (b:List TR),e=QD (QE #[Z a0 n0 c0,Z a1 b.length c1])/\b.length=n/\HSp w.heap.size d a0 n0 f0 a1 b.length (bo (b.map (·.1)))/\TRow d (w.heap.size+1) (Z a1 b.length c1) b/\GX b/\(∀ r∈b,r.1.name.size<=5000)/\Below w.heap.size w d
theorem un (n:Nat)(hn:n<=200)(en:ByteArray)(he:en.size<=5000)(w:E):Calls Tryz.prog 138 #[Q I n,U en] w fun e w'=>DFn n w e w':=by
 obtain⟨bt,l,n6,la,ld⟩:=IS ft;have V:(w.alloc (T #[Z Y 0 0,Z Y 0 0] 26)).heap.size=w.heap.size+1:=by simp
 have S:((w.alloc (T #[Z Y 0 0,Z Y 0 0] 26)).alloc (T #[U ⟨#[97]⟩,U ⟨#[103,114,111,117,110,100]⟩] 104)).heap.size=w.heap.size+1+1:=by simp
 have A0:=ae (((((Qs w).alloc lr (T #[Z Y 0 0,Z Y 0 0] 26))).alloc (by omega) (T #[U ⟨#[97]⟩,U ⟨#[103,114,111,117,110,100]⟩] 104)).alloc (by omega) (T #[Z (N (J (w.heap.size+1) 0 Y)) 1 1,Z Y 0 0] 26));have X1:Hid (SpX w.heap.size (w.heap.size+1+1) (w.heap.size+1) (((w.alloc (T #[Z Y 0 0,Z Y 0 0] 26)).alloc (T #[U ⟨#[97]⟩,U ⟨#[103,114,111,117,110,100]⟩] 104)).alloc (T #[Z (N (J (w.heap.size+1) 0 Y)) 1 1,Z Y 0 0] 26)) (Z (N (J (w.heap.size+1) 0 Y)) 1 1) (Z Y 0 0) [⟨⟨#[97]⟩,⟨#[103,114,111,117,110,100]⟩⟩] []):=by have k1:=eL w (T #[Z Y 0 0,Z Y 0 0] 26);have k2:=eL (w.alloc (T #[Z Y 0 0,Z Y 0 0] 26)) (T #[U ⟨#[97]⟩,U ⟨#[103,114,111,117,110,100]⟩] 104);rw[V] at k2;have BQ:=(eI (w.heap.size+1) (w.alloc (T #[Z Y 0 0,Z Y 0 0] 26))).alloc (by omega) (T #[U ⟨#[97]⟩,U ⟨#[103,114,111,117,110,100]⟩] 104);have h:=pw (LS:=[⟨⟨#[97]⟩,⟨#[103,114,111,117,110,100]⟩⟩]) (base:=w.heap.size+1) (base':=w.heap.size+1) ((BQ.block w.heap.size (lj _)).trans k1) (lj _) lr (by omega) (v0:=Z (N (J (w.heap.size+1) 0 Y)) 1 1) ⟨rfl,.inr ⟨w.heap.size+1,1,_,rfl,j6 _,k2,j6 _,by unfold maxLen;omega,rfl,rfl⟩⟩ (dT _ _);rw[S] at h;exact h
 have hw2:IntKind.i64.wrap ((n:Int) - 1)=(n:Int) - 1:=by rw[vF];omega
 clear V S;go_enter Tryz.func138,Tryz.ntmps138;go_wp2_with fail;generalize ((w.alloc (T #[Z Y 0 0,Z Y 0 0] 26)).alloc (T #[U ⟨#[97]⟩,U ⟨#[103,114,111,117,110,100]⟩] 104)).alloc (T #[Z (N (J (w.heap.size+1) 0 Y)) 1 1,Z Y 0 0] 26)=W2 at X1 A0 ⊢;obtain⟨o,A,c2,n7,R⟩:∃ (o:List Source) (A:Option Addr) (c2:Nat),o.length<=300/\Hid (SpX w.heap.size (w.heap.size+1+1) (w.heap.size+1) W2 (Z A o.length c2) (Z Y 0 0) o []):=⟨[⟨⟨#[97]⟩,⟨#[103,114,111,117,110,100]⟩⟩],N (J (w.heap.size+1) 0 Y),1,by show 1<=300;omega,X1⟩
 clear X1;generalize n8:w.heap.size+1+1=xb at R ⊢;clear n8;go_loopw [6] (fun i wr=>∃ (k:Nat) (v1:Value) (b:List TR),i=Q I k/\k<=n/\b.length=k/\Hid (SpX w.heap.size xb (w.heap.size+1) wr (Z A o.length c2) v1 o b)/\Hid (GX b)/\Hid (∀ r∈b,r.1.name.size<=5000)/\Hid (Below w.heap.size w wr)) (fun i _=>n - (intOf i).toNat);case atStart=>exact⟨0,_,[],rfl,by omega,rfl,R,fun _ h=>absurd h nj,fun _ h=>absurd h nj,A0⟩
 case round =>
  obtain⟨k,v1,b,rfl,hk,QK,QP,G2,N2,B2⟩:=hrel;have HK:Hid (b.length=k):=QK;obtain⟨G,c5,rfl⟩:=bh QP.tgt.own;obtain⟨QH,aq⟩:=QP.cells;have mv:=QP.lt;have hrn:b.length<=200:=by omega
  clear QK;by_cases hlt:k<n
  ·have hwk:IntKind.i64.wrap ((k:Int)+1)=(k:Int)+1:=by rw[vF];omega
   go_wp2_with fail;refine(gQ (k+1) (by omega) _).mono ?_;rintro e QO ⟨nb,rfl,hnb,L⟩;have H:=ae (QP.below L lr);have B3:=ae (B2.trans (L.mono B2.size));obtain⟨QH,aq⟩:=H.cells;have mv:=H.lt;clear L;by_cases X:(n:Int) - 1=(k:Int)
   case' pos =>
    go_wp2_with fail;obtain⟨s,m⟩:∃ z,z=en:=⟨_,rfl⟩
    have ex:s.size<=5000:=by rw[m];omega
   case' neg =>
    have fd:¬ (k:Int)=(n:Int) - 1:=fun e=>X e.symm;clear X;go_wp2_with fail;clear fd;obtain⟨s,m⟩:∃ z,z=nb:=⟨_,rfl⟩
    have ex:s.size<=5000:=by rw[m];omega
   all_goals
    rw[<-m];have HZ:=ae m;clear m;clear QH aq;have y:=ae H.keepT;refine bm (BxT (Z A o.length c2) (Z G b.length c5) xb) 14 (by as_aux_lemma=>kernel_rfl) ?_;have f:=ae (y QO.drew (fun j l _=>rfl))
    iterate 3
     refine bw 0 (v:=?_) rfl rfl (by as_aux_lemma=>kernel_rfl) (fun _ _ _ h=>h) rfl ?_ f ?_;rotate_left
     ·(intro wz QN;obtain⟨s0,s1⟩:=QN;go_simp)
      (try with_reducible rfl)
     (try simp only[Act.put,nzL])
    refine bw 4 (v:=?_) rfl rfl (by as_aux_lemma=>kernel_rfl) (fun _ _ _ h=>h) rfl ?_ f ?_;rotate_left
    ·(intro wz QN;obtain⟨s0,s1⟩:=QN;go_simp)
     (try with_reducible rfl)
    (try simp only[Act.put,nzL])
    refine ar (i:=3) rfl (by as_aux_lemma=>kernel_rfl) (fun K d=>?_);go_simp;go_at_call 141;refine(gQ k (by omega) _).mono ?_;rintro e wl ⟨QQ,rfl,htn,QM⟩;have P:Hid (Below QO.heap.size QO wl):=(Qs QO).drew.trans QM;clear QM f;have f:=ae (y wl (fun j l _=>P.block j l));refine d _ _ (fun _=>f) ?_;clear d K
    (try simp only[Act.put,nzL])
    refine ar (i:=5) rfl (by as_aux_lemma=>kernel_rfl) (fun K d=>?_);go_simp;go_at_call 142;refine(bB _ _).mono ?_;rintro e wm ⟨rfl,QG⟩;have M:=ae (P.trans (QG.mono P.size));clear QG f;have f:=ae (y wm (fun j l _=>M.block j l));refine d _ _ (fun _=>f) ?_;clear d K
    (try simp only[Act.put,nzL])
    refine ar (i:=6) rfl (by as_aux_lemma=>kernel_rfl) (fun K d=>?_);go_simp;go_at_call 143;refine(bn _ _).mono ?_;rintro e wo ⟨rfl,W⟩;have O:=ae (M.trans (W.mono M.size));clear W f;have f:=ae (y wo (fun j l _=>O.block j l));refine d _ _ (fun _=>f) ?_;clear d K
    (try simp only[Act.put,nzL])
    refine ar (i:=7) rfl (by as_aux_lemma=>kernel_rfl) (fun K d=>?_);go_simp;go_at_call 143;refine(bn _ _).mono ?_;rintro e q ⟨rfl,QJ⟩;have BN:=ae (O.trans (QJ.mono O.size));clear QJ f P M O;have hzn:=BN.size;have BI:=ae (BN.alloc (by omega) (T #[Q I 1,U s,Q I 0,Q I 12,U ⟨#[]⟩,Q I 0,Q I 15,U ⟨#[]⟩,Q I 0] 188));have hxi:=H.hi;have OI:=ae (yN q s (base:=w.heap.size+1) (by omega));have f:=ae (y q (fun j l _=>BN.block j l));refine d _ _ (fun _=>f) ?_;clear d K f
    (try simp only[Act.put,nzL])
    have f:=ae (y _ (fun j l _=>BI.block j l))
    iterate 3
     refine df 8 rfl rfl (by as_aux_lemma=>kernel_rfl) (fun K d=>?_);go_simp;refine d _ _ (fun _=>f) ?_;clear d K
     (try simp only[Act.put,nzL])
    have ph:(q.alloc (T #[Q I 1,U s,Q I 0,Q I 12,U ⟨#[]⟩,Q I 0,Q I 15,U ⟨#[]⟩,Q I 0] 188)).heap.size=q.heap.size+1:=by simp
    have AB:=ae (BI.alloc (by omega) (T #[U QQ,Z (N (J q.heap.size 0 Y)) 3 3] 108));refine ar (i:=11) rfl (by as_aux_lemma=>kernel_rfl) (fun K d=>?_);go_simp;have QL:=ae (H.below AB lr);have OA:=ae (own_below OI (br.alloc lr (T #[U QQ,Z (N (J q.heap.size 0 Y)) 3 3] 108)) lr);refine d _ _ (fun _=>y _ (fun j l _=>AB.block j l)) ?_;clear d K
    (try simp only[Act.put,nzL])
    refine ar (i:=12) rfl (by as_aux_lemma=>kernel_rfl) (fun K d=>?_);refine bA rfl (.tmp 25) (.tmp 35) 24 rfl (w.heap.size+1) 108 bt (QE #[U ⟨#[]⟩,Z Y 0 0]) 2 40 Tryz.underlying24 l n6 la ld rfl (by decide) (Z G b.length c5) b.length (b.flatMap aV) (by simp[Act.eval]) QL.tgt.own (J (q.heap.size+1) 0 Y) 1 1 (aV (⟨QQ,3,lsI (ie s)⟩,q.heap.size,3)) (by simp[Act.eval]) rfl (fun j u hu=>kO (ph) _ _ _ j u hu) (by simp[aV,Value.oneCell']) (by unfold maxLen;omega) (by omega) (by have:=QL.hi;have:=QL.lt;omega) ?_;intro v' w7 B t _;obtain⟨a7,c7,rfl⟩:=bh B;have S7:=ae (y w7 (fun j l n9=>(t.block j (ll l AB.size) n9).trans (AB.block j l)));obtain⟨c8,b8⟩:=QL.addT (x:=⟨QQ,3,lsI (ie s)⟩) (g:=q.heap.size) (c:=3) (fun r C e=>by have:=H.tgt.ltg r C;omega) OA B t;have X9:=ae c8;have B9:=ae b8;clear B t c8 b8;refine d _ _ (fun _=>S7) ?_;clear d K
    (try simp only[Act.put,nzL])
    refine ar (i:=13) rfl (by as_aux_lemma=>kernel_rfl) (fun K d=>?_);go_simp;refine d _ _ (fun _=>S7) ?_;clear d K
    (try simp only[Act.put,nzL])
    obtain⟨s7,t7⟩:=S7.out;have f7:w7.frozen? (J xb 1 Y)=D:=by simp[World.frozen?,s7]
    have l7:=aC s7;clear s7;refine ar (i:=14) rfl (by as_aux_lemma=>kernel_rfl) (fun K d=>?_);go_simp;refine d _ _ (fun h=>absurd rfl h) ?_;clear d K
    (try simp only[Act.put,nzL])
    refine bJ (by as_aux_lemma=>kernel_rfl) ?_ _;have m:=HZ.out;subst m;go_wp2;have BB:=ae ((AB.mono (show w.heap.size+1<=QO.heap.size by omega)).trans B9.out)
    refine⟨⟨k+1,Z a7 (b.length+1) c7,b++[((⟨QQ,3,lsI (ie s)⟩,q.heap.size,3):TR)],by go_num,by omega,by rw[cM,HK.out];rfl,X9,G2.add (r:=(⟨QQ,3,lsI (ie s)⟩,q.heap.size,3)) (by show 3<=300;omega) (xn (by omega)),(fun r C=>by
     rcases kS.1 C with C | C
     ·exact N2 r C
     ·rw[j3.1 C];show QQ.size<=5000;omega),B3.trans (BB.mono (by omega))⟩,by simp[intOf];omega⟩
  ·obtain rfl:k=n:=by omega
   have kr:=QP.res;have r0:wr.cell? (J w.heap.size 0 Y)=N (Z Y 0 0):=by simp[World.cell?,kr]
   have r1:wr.cell? (J w.heap.size 1 Y)=N (Z Y 0 0):=by simp[World.cell?,kr]
   have f0:wr.frozen? (J w.heap.size 0 Y)=D:=by simp[World.frozen?,kr]
   have f1:wr.frozen? (J w.heap.size 1 Y)=D:=by simp[World.frozen?,kr]
   have l0:=aC kr;clear kr;have BE:=ae ((B2.setCell (p:=(J w.heap.size 0 Y)) lr (Z A o.length c2)).setCell (p:=(J w.heap.size 1 Y)) lr (Z G b.length c5));have HE:=ae ((QP.fin rfl rfl n7 (by omega) G2 (Z A o.length c2) (Z G b.length c5)).mono (AS w.heap.size));have TE:=ae ((QP.tgt.set (j:=0) (lj _) (Z A o.length c2)).set (j:=1) (lj _) (Z G b.length c5));go_wp2;exact bp (v:=QE #[Z A o.length c2,Z G b.length c5]) (by simp[results,Tryz.results138,go_sem,r0,r1]) rfl ⟨_,_,_,_,_,_,_,rfl,HK,HE,TE,G2,N2,BE⟩
theorem uo (n:Nat)(i:n<=200)(b:ByteArray)(h:b.size<=5000)(w:E):Calls Tryz.prog 138 #[Q I n,U b] w fun e f=>DF w e f :=
 (un n i b h w).mono fun _ _ ⟨a0,n0,c0,f0,a1,c1,d,h1,_,h2,_,_,_,g⟩=>⟨a0,n0,c0,f0,a1,d.length,c1,_,h1,h2,g⟩
end Go.Proofs.YtkdimgejdocbbaaGreatDoor.Vp
