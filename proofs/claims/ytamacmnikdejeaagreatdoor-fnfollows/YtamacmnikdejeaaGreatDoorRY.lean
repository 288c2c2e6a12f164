import Derived.Test.YtamacmnikdejeaaGreatDoorRU
import Derived.Test.YtamacmnikdejeaaGreatDoorSA
set_option maxRecDepth 100000
set_option maxHeartbeats 8000000
open Go.Addr renaming mk->N
open Go.Value renaming slice->Y,string->U,int->J,agg->QG
open Option renaming none->Z,some->T
open Go.Obj renaming cells->Q
open Go.IntKind renaming i64->I
open Go renaming World->G
open Bool renaming false->QB
open Go.Ending renaming returned->QF
namespace Go.Proofs.YtamacmnikdejeaaGreatDoor.Vp
open RowKit Ca
def DF (w:G)(e:Ending)(b:G):Prop:=∃ (a0:Option Addr) (n0 c0:Nat) (f0:Nat->Source) (a1:Option Addr) (n1 c1:Nat) (f1:Nat->Target),e=QF (QG #[Y a0 n0 c0,Y a1 n1 c1])/\HSp w.heap.size b a0 n0 f0 a1 n1 f1/\Below w.heap.size w b
def DFn (n:Nat)(w:G)(e:Ending)(f:G):Prop:=∃ (a0:Option Addr) (n0 c0:Nat) (f0:Nat->Source) (a1:Option Addr) (c1:Nat) (b:List TR),e=QF (QG #[Y a0 n0 c0,Y a1 b.length c1])/\b.length=n/\n0<=250/\HSp w.heap.size f a0 n0 f0 a1 b.length (be (b.map (·.1)))/\TRow f (w.heap.size+1) (Y a1 b.length c1) b/\GX b/\(∀ r∈b,r.1.name.size<=5000/\r.1.actN=3)/\Below w.heap.size w f
theorem nA (n:Nat)(hn:n<=200)(en:ByteArray)(he:en.size<=5000)(w:G):Calls Tryz.prog 95 #[J I n,U en] w fun e w'=>DFn n w e w':=by
 obtain⟨la,l,n6,ph,ld⟩:=IL fw;have R:(w.alloc (Q #[Y Z 0 0,Y Z 0 0] 29)).heap.size=w.heap.size+1:=by simp
 have W:((w.alloc (Q #[Y Z 0 0,Y Z 0 0] 29)).alloc (Q #[U ⟨#[97]⟩,U ⟨#[103,114,111,117,110,100]⟩] 121)).heap.size=w.heap.size+1+1:=by simp
 have A0:=ae (((((q9 w).alloc ly (Q #[Y Z 0 0,Y Z 0 0] 29))).alloc (by omega) (Q #[U ⟨#[97]⟩,U ⟨#[103,114,111,117,110,100]⟩] 121)).alloc (by omega) (Q #[Y (T (N (w.heap.size+1) 0 Z)) 1 1,Y Z 0 0] 29));have X1:Hid (SpX w.heap.size (w.heap.size+1+1) (w.heap.size+1) (((w.alloc (Q #[Y Z 0 0,Y Z 0 0] 29)).alloc (Q #[U ⟨#[97]⟩,U ⟨#[103,114,111,117,110,100]⟩] 121)).alloc (Q #[Y (T (N (w.heap.size+1) 0 Z)) 1 1,Y Z 0 0] 29)) (Y (T (N (w.heap.size+1) 0 Z)) 1 1) (Y Z 0 0) [⟨⟨#[97]⟩,⟨#[103,114,111,117,110,100]⟩⟩] []):=by have k1:=eT w (Q #[Y Z 0 0,Y Z 0 0] 29);have k2:=eT (w.alloc (Q #[Y Z 0 0,Y Z 0 0] 29)) (Q #[U ⟨#[97]⟩,U ⟨#[103,114,111,117,110,100]⟩] 121);rw[R] at k2;have BQ:=(a8 (w.heap.size+1) (w.alloc (Q #[Y Z 0 0,Y Z 0 0] 29))).alloc (by omega) (Q #[U ⟨#[97]⟩,U ⟨#[103,114,111,117,110,100]⟩] 121);have h:=qd (LS:=[⟨⟨#[97]⟩,⟨#[103,114,111,117,110,100]⟩⟩]) (base:=w.heap.size+1) (base':=w.heap.size+1) ((BQ.block w.heap.size (eL _)).trans k1) (eL _) ly (by omega) (v0:=Y (T (N (w.heap.size+1) 0 Z)) 1 1) ⟨rfl,.inr ⟨w.heap.size+1,1,_,rfl,j6 _,k2,j6 _,by unfold maxLen;omega,rfl,rfl⟩⟩ (cT _ _);rw[W] at h;exact h
 have hw2:IntKind.i64.wrap ((n:Int) - 1)=(n:Int) - 1:=by rw[kP];omega
 clear R W;go_enter Tryz.func95,Tryz.ntmps95;go_wp2_with fail;generalize ((w.alloc (Q #[Y Z 0 0,Y Z 0 0] 29)).alloc (Q #[U ⟨#[97]⟩,U ⟨#[103,114,111,117,110,100]⟩] 121)).alloc (Q #[Y (T (N (w.heap.size+1) 0 Z)) 1 1,Y Z 0 0] 29)=W2 at X1 A0 ⊢;obtain⟨q,B,c2,hLS,X⟩:∃ (q:List Source) (B:Option Addr) (c2:Nat),q.length<=250/\Hid (SpX w.heap.size (w.heap.size+1+1) (w.heap.size+1) W2 (Y B q.length c2) (Y Z 0 0) q []):=⟨[⟨⟨#[97]⟩,⟨#[103,114,111,117,110,100]⟩⟩],T (N (w.heap.size+1) 0 Z),1,by show 1<=250;omega,X1⟩
 clear X1;generalize fd:w.heap.size+1+1=xb at X ⊢;clear fd;go_loopw [6] (fun i wr=>∃ (k:Nat) (v1:Value) (b:List TR),i=J I k/\k<=n/\b.length=k/\Hid (SpX w.heap.size xb (w.heap.size+1) wr (Y B q.length c2) v1 q b)/\Hid (GX b)/\Hid (∀ r∈b,r.1.name.size<=5000/\r.1.actN=3)/\Hid (Below w.heap.size w wr)) (fun i _=>n - (intOf i).toNat);case atStart=>exact⟨0,_,[],rfl,by omega,rfl,X,fun _ h=>absurd h nj,fun _ h=>absurd h nj,A0⟩
 case round =>
  obtain⟨k,v1,b,rfl,hk,QL,D,G2,N2,B2⟩:=hrel;have HK:Hid (b.length=k):=QL;obtain⟨QP,c5,rfl⟩:=aP D.tgt.own;obtain⟨QK,S⟩:=D.cells;have n7:=D.lt;have hrn:b.length<=200:=by omega
  clear QL;by_cases hlt:k<n
  ·have hwk:IntKind.i64.wrap ((k:Int)+1)=(k:Int)+1:=by rw[kP];omega
   go_wp2_with fail;refine(jL (k+1) (by omega) _).mono ?_;rintro e QO ⟨nb,rfl,hnb,M⟩;have H:=ae (D.below M ly);have B3:=ae (B2.trans (M.mono B2.size));obtain⟨QK,S⟩:=H.cells;have n7:=H.lt;clear M;by_cases bt:(n:Int) - 1=(k:Int)
   case' pos =>
    go_wp2_with fail;obtain⟨t,o⟩:∃ z,z=en:=⟨_,rfl⟩
    have n9:t.size<=5000:=by rw[o];omega
   case' neg =>
    have mv:¬ (k:Int)=(n:Int) - 1:=fun e=>bt e.symm;clear bt;go_wp2_with fail;clear mv;obtain⟨t,o⟩:∃ z,z=nb:=⟨_,rfl⟩
    have n9:t.size<=5000:=by rw[o];omega
   all_goals
    rw[<-o];have HZ:=ae o;clear o;clear QK S;have A:=ae H.keepT;refine aD (BxT (Y B q.length c2) (Y QP b.length c5) xb) 14 (by as_aux_lemma=>kernel_rfl) ?_;have m:=ae (A QO.drew (fun j l _=>rfl))
    iterate 3
     refine aL 0 (v:=?_) rfl rfl (by as_aux_lemma=>kernel_rfl) (fun _ _ _ h=>h) rfl ?_ m ?_;rotate_left
     ·(intro wz L;obtain⟨s0,s1⟩:=L;go_simp)
      (try with_reducible rfl)
     (try simp only[Act.put,nzL])
    refine aL 4 (v:=?_) rfl rfl (by as_aux_lemma=>kernel_rfl) (fun _ _ _ h=>h) rfl ?_ m ?_;rotate_left
    ·(intro wz L;obtain⟨s0,s1⟩:=L;go_simp)
     (try with_reducible rfl)
    (try simp only[Act.put,nzL])
    refine af (i:=3) rfl (by as_aux_lemma=>kernel_rfl) (fun K f=>?_);go_simp;go_at_call 83;refine(jL k (by omega) _).mono ?_;rintro e wl ⟨QR,rfl,htn,QH⟩;have P:Hid (Below QO.heap.size QO wl):=(q9 QO).drew.trans QH;clear QH m;have m:=ae (A wl (fun j l _=>P.block j l));refine f _ _ (fun _=>m) ?_;clear f K
    (try simp only[Act.put,nzL])
    refine af (i:=5) rfl (by as_aux_lemma=>kernel_rfl) (fun K f=>?_);go_simp;go_at_call 84;refine(bs _ _).mono ?_;rintro e wm ⟨rfl,V⟩;have O:=ae (P.trans (V.mono P.size));clear V m;have m:=ae (A wm (fun j l _=>O.block j l));refine f _ _ (fun _=>m) ?_;clear f K
    (try simp only[Act.put,nzL])
    refine af (i:=6) rfl (by as_aux_lemma=>kernel_rfl) (fun K f=>?_);go_simp;go_at_call 85;refine(bi _ _).mono ?_;rintro e wo ⟨rfl,aq⟩;have QN:=ae (O.trans (aq.mono O.size));clear aq m;have m:=ae (A wo (fun j l _=>QN.block j l));refine f _ _ (fun _=>m) ?_;clear f K
    (try simp only[Act.put,nzL])
    refine af (i:=7) rfl (by as_aux_lemma=>kernel_rfl) (fun K f=>?_);go_simp;go_at_call 85;refine(bi _ _).mono ?_;rintro e s ⟨rfl,QJ⟩;have BN:=ae (QN.trans (QJ.mono QN.size));clear QJ m P O QN;have hzn:=BN.size;have BI:=ae (BN.alloc (by omega) (Q #[J I 1,U t,J I 0,J I 12,U ⟨#[]⟩,J I 0,J I 15,U ⟨#[]⟩,J I 0] 146));have hxi:=H.hi;have OI:=ae (yP s t (base:=w.heap.size+1) (by omega));have m:=ae (A s (fun j l _=>BN.block j l));refine f _ _ (fun _=>m) ?_;clear f K m
    (try simp only[Act.put,nzL])
    have m:=ae (A _ (fun j l _=>BI.block j l))
    iterate 3
     refine cC 8 rfl rfl (by as_aux_lemma=>kernel_rfl) (fun K f=>?_);go_simp;refine f _ _ (fun _=>m) ?_;clear f K
     (try simp only[Act.put,nzL])
    have n8:(s.alloc (Q #[J I 1,U t,J I 0,J I 12,U ⟨#[]⟩,J I 0,J I 15,U ⟨#[]⟩,J I 0] 146)).heap.size=s.heap.size+1:=by simp
    have AB:=ae (BI.alloc (by omega) (Q #[U QR,Y (T (N s.heap.size 0 Z)) 3 3] 125));refine af (i:=11) rfl (by as_aux_lemma=>kernel_rfl) (fun K f=>?_);go_simp;have QM:=ae (H.below AB ly);have OA:=ae (own_below OI (br.alloc ly (Q #[U QR,Y (T (N s.heap.size 0 Z)) 3 3] 125)) ly);refine f _ _ (fun _=>A _ (fun j l _=>AB.block j l)) ?_;clear f K
    (try simp only[Act.put,nzL])
    refine af (i:=12) rfl (by as_aux_lemma=>kernel_rfl) (fun K f=>?_);refine bA rfl (.tmp 25) (.tmp 35) 27 rfl (w.heap.size+1) 125 la (QG #[U ⟨#[]⟩,Y Z 0 0]) 2 40 Tryz.underlying27 l n6 ph ld rfl (by decide) (Y QP b.length c5) b.length (b.flatMap bc) (by simp[Act.eval]) QM.tgt.own (N (s.heap.size+1) 0 Z) 1 1 (bc (⟨QR,3,lsI (ii t)⟩,s.heap.size,3)) (by simp[Act.eval]) rfl (fun j u hu=>ou (n8) _ _ _ j u hu) (by simp[bc,Value.oneCell']) (by unfold maxLen;omega) (by omega) (by have:=QM.hi;have:=QM.lt;omega) ?_;intro v' w7 E y _;obtain⟨a7,c7,rfl⟩:=aP E;have S7:=ae (A w7 (fun j l ex=>(y.block j (lj l AB.size) ex).trans (AB.block j l)));obtain⟨c8,b8⟩:=QM.addT (x:=⟨QR,3,lsI (ii t)⟩) (g:=s.heap.size) (c:=3) (fun r C e=>by have:=H.tgt.ltg r C;omega) OA E y;have X9:=ae c8;have B9:=ae b8;clear E y c8 b8;refine f _ _ (fun _=>S7) ?_;clear f K
    (try simp only[Act.put,nzL])
    refine af (i:=13) rfl (by as_aux_lemma=>kernel_rfl) (fun K f=>?_);go_simp;refine f _ _ (fun _=>S7) ?_;clear f K
    (try simp only[Act.put,nzL])
    obtain⟨s7,t7⟩:=S7.out;have f7:w7.frozen? (N xb 1 Z)=QB:=by simp[World.frozen?,s7]
    have l7:=ai s7;clear s7;refine af (i:=14) rfl (by as_aux_lemma=>kernel_rfl) (fun K f=>?_);go_simp;refine f _ _ (fun h=>absurd rfl h) ?_;clear f K
    (try simp only[Act.put,nzL])
    refine aM (by as_aux_lemma=>kernel_rfl) ?_ _;have o:=HZ.out;subst o;go_wp2;have BB:=ae ((AB.mono (show w.heap.size+1<=QO.heap.size by omega)).trans B9.out)
    refine⟨⟨k+1,Y a7 (b.length+1) c7,b++[((⟨QR,3,lsI (ii t)⟩,s.heap.size,3):TR)],by go_num,by omega,by rw[eI,HK.out];rfl,X9,G2.add (r:=(⟨QR,3,lsI (ii t)⟩,s.heap.size,3)) (by show 3<=300;omega) (xx (by omega)),(fun r C=>by
     rcases nL.1 C with C | C
     ·exact N2 r C
     ·rw[hU.1 C];exact⟨by show QR.size<=5000;omega,rfl⟩),B3.trans (BB.mono (by omega))⟩,by simp[intOf];omega⟩
  ·obtain rfl:k=n:=by omega
   have kr:=D.res;have r0:wr.cell? (N w.heap.size 0 Z)=T (Y Z 0 0):=by simp[World.cell?,kr]
   have r1:wr.cell? (N w.heap.size 1 Z)=T (Y Z 0 0):=by simp[World.cell?,kr]
   have f0:wr.frozen? (N w.heap.size 0 Z)=QB:=by simp[World.frozen?,kr]
   have f1:wr.frozen? (N w.heap.size 1 Z)=QB:=by simp[World.frozen?,kr]
   have l0:=ai kr;clear kr;have BE:=ae ((B2.setCell (p:=(N w.heap.size 0 Z)) ly (Y B q.length c2)).setCell (p:=(N w.heap.size 1 Z)) ly (Y QP b.length c5));have HE:=ae ((D.fin rfl rfl (by omega) (by omega) G2 (Y B q.length c2) (Y QP b.length c5)).mono (CV w.heap.size));have TE:=ae ((D.tgt.set (j:=0) (eL _) (Y B q.length c2)).set (j:=1) (eL _) (Y QP b.length c5));go_wp2;exact bp (v:=QG #[Y B q.length c2,Y QP b.length c5]) (by simp[results,Tryz.results95,go_sem,r0,r1]) rfl ⟨_,_,_,_,_,_,_,rfl,HK,by omega,HE,TE,G2,N2,BE⟩
end Go.Proofs.YtamacmnikdejeaaGreatDoor.Vp
