import Derived.Test.YtamacmnikdejeaaGreatDoorXB
import Derived.Test.YtamacmnikdejeaaGreatDoorZA
set_option maxRecDepth 100000
set_option maxHeartbeats 8000000
open Go.Addr renaming mk->T
open Go.Value renaming slice->Y,string->U,int->I,agg->QV
open Option renaming none->Z,some->N
open Go.Obj renaming cells->Q
open Go.IntKind renaming i64->J
open Go renaming World->H
open Bool renaming false->QQ
open Go.Ending renaming returned->QU
namespace Go.Proofs.YtamacmnikdejeaaGreatDoor.Vp
open RowKit Ca
def DF (w:H)(e:Ending)(b:H):Prop:=∃ (a0:Option Addr) (n0 c0:Nat) (f0:Nat->Source) (a1:Option Addr) (n1 c1:Nat) (f1:Nat->Target),e=QU (QV #[Y a0 n0 c0,Y a1 n1 c1])/\HSp w.heap.size b a0 n0 f0 a1 n1 f1/\Below w.heap.size w b
theorem yz (b0 n0 c0 n1 c1:Nat)(a0:Option Addr)(f0:Nat->Source)(a1:Option Addr)(f1:Nat->Target)(less:Int)(w:H)(h0:0<=less)(h1:less<=1)(hH:HSp b0 w a0 n0 f0 a1 n1 f1):Calls Tryz.prog 62 #[QV #[Y a0 n0 c0,Y a1 n1 c1],I J less] w fun e w'=>DF w e w':=by
 have hn0:=hH.hn0;have hn1:=hH.hn1;obtain⟨hs,ht⟩:=hH.sl w (Agr.refl _ _);have QY:=ae hH.fit;have l:=ae hs;have X:=ae ht;clear hs ht hH;obtain⟨ph,m,ld,fd,qr⟩:=JV fL;have F:=ae (((q9 w).alloc ly (Q #[Y a0 n0 c0,Y a1 n1 c1] 29)).alloc (by simp) (Q #[Y Z 0 0,Y Z 0 0] 29));have sm:((w.alloc (Q #[Y a0 n0 c0,Y a1 n1 c1] 29)).alloc (Q #[Y Z 0 0,Y Z 0 0] 29)).heap.size=w.heap.size+2:=by simp
 have Q2:Hid (((w.alloc (Q #[Y a0 n0 c0,Y a1 n1 c1] 29)).alloc (Q #[Y Z 0 0,Y Z 0 0] 29)).heap[w.heap.size+1]?=N (Q #[Y Z 0 0,Y Z 0 0] 29 (0,0))):=by have h2:=cM (w.alloc (Q #[Y a0 n0 c0,Y a1 n1 c1] 29)) (Q #[Y Z 0 0,Y Z 0 0] 29);rw[show(w.alloc (Q #[Y a0 n0 c0,Y a1 n1 c1] 29)).heap.size=w.heap.size+1 by simp] at h2;exact h2
 go_enter Tryz.func62,Tryz.ntmps62;go_wp2_with fail;generalize (w.alloc (Q #[Y a0 n0 c0,Y a1 n1 c1] 29)).alloc (Q #[Y Z 0 0,Y Z 0 0] 29)=W at F sm Q2 ⊢;refine(eE a0 n0 c0 f0 a1 n1 c1 f1 ⟨#[]⟩ W (by omega) (by omega) (l.below F ly) (X.below F ly) (fun i hi=>by have:=(QY i hi).1;unfold bP;omega)).mono ?_;rintro e ZA ⟨v0,S,P,rfl,A,E,hM,B⟩;obtain⟨y,c2,rfl⟩:=aF A;obtain⟨a3,c3,rfl⟩:=aF E.own;have G1:=ae (wH hM QY);have hl1:=pT hM;have ro:=iM f0 ⟨#[]⟩ n0;clear hM l X QY;generalize keepS f0 ⟨#[]⟩ n0=n at A ro ⊢;have hsz:=B.size;have X1:=ae (qG (rr:=w.heap.size+1) (base:=w.heap.size+2) ((B.block _ (by omega)).trans Q2) (by omega) (by omega) (by omega) A E);have B1:=ae ((F.trans (B.mono (by omega))).alloc (by omega) (Q #[Y y n.length c2,Y a3 P.length c3] 29));clear A E B F Q2;have hw2:IntKind.i64.wrap (200 - less)=200 - less:=by rw[j6];omega
 go_wp2_with fail;generalize ZA.alloc (Q #[Y y n.length c2,Y a3 P.length c3] 29)=W2 at X1 B1 ⊢;go_loopw [6] (fun i wr=>∃ (k:Nat) (S:Value) (b:List TR),i=I J k/\k<=b.length/\b.length<=300/\Hid (SpX (w.heap.size+1) ZA.heap.size (w.heap.size+2) wr (Y y n.length c2) S n b)/\Hid (GX b)/\Hid (Below w.heap.size w wr)) (fun i _=>400 - (intOf i).toNat);case atStart=>exact⟨0,_,P,rfl,by omega,by omega,X1,G1,B1⟩
 case round =>
  obtain⟨k,S,b,rfl,hk,n9,q,QW,B2⟩:=hrel;obtain⟨D,c5,rfl⟩:=aF q.tgt.own;obtain⟨la,bt⟩:=q.cells;have hxl:=q.lt;have hw1:IntKind.i64.wrap ((n.length:Int)+b.length)=(n.length:Int)+b.length:=by rw[j6];omega
  by_cases hlt:(n.length:Int)+b.length<200 - less
  ·have hwk:IntKind.i64.wrap ((k:Int)+1)=(k:Int)+1:=by rw[j6];omega
   go_wp2_with fail;clear la bt;have z:=ae q.keepT;refine aH (BxT (Y y n.length c2) (Y D b.length c5) ZA.heap.size) 13 (by as_aux_lemma=>kernel_rfl) ?_;have l:=ae (z wr.drew (fun j m _=>rfl))
   iterate 3
    refine aO 0 (v:=?_) rfl rfl (by as_aux_lemma=>kernel_rfl) (fun _ _ _ h=>h) rfl ?_ l ?_;rotate_left
    ·(intro wz mv;obtain⟨s0,s1⟩:=mv;go_simp)
     (try with_reducible rfl)
    (try simp only[Act.put,nzL])
   refine af (i:=3) rfl (by as_aux_lemma=>kernel_rfl) (fun K f=>?_);go_simp;go_at_call 83;refine(iE k (by omega) _).mono ?_;rintro e wl ⟨lb,rfl,hlb,L⟩;have G:Hid (Below wr.heap.size wr wl):=(q9 wr).drew.trans L;clear L l;have l:=ae (z wl (fun j m _=>G.block j m));refine f _ _ (fun _=>l) ?_;clear f K
   (try simp only[Act.put,nzL])
   refine gD (i:=4) (v:=U (⟨#[118]⟩++lb)) rfl (by as_aux_lemma=>kernel_rfl) (by as_aux_lemma=>kernel_rfl) (by as_aux_lemma=>kernel_rfl) (by as_aux_lemma=>kernel_rfl) (fun _ _ _ h=>h) rfl ?_ l ?_
   ·intro wz _
    go_simp;omega
   (try simp only[Act.put,nzL])
   generalize (⟨#[118]⟩:ByteArray)++lb=C;refine af (i:=5) rfl (by as_aux_lemma=>kernel_rfl) (fun K f=>?_);go_simp;go_at_call 84;refine(bE _ _).mono ?_;rintro e wm ⟨rfl,M⟩;have ZB:=ae (G.trans (M.mono G.size));clear M l;have l:=ae (z wm (fun j m _=>ZB.block j m));refine f _ _ (fun _=>l) ?_;clear f K
   (try simp only[Act.put,nzL])
   refine af (i:=6) rfl (by as_aux_lemma=>kernel_rfl) (fun K f=>?_);go_simp;go_at_call 85;refine(bs _ _).mono ?_;rintro e o ⟨rfl,QZ⟩;have R:=ae (ZB.trans (QZ.mono ZB.size));clear QZ l G ZB;have hzn:=R.size;have V:=ae (R.alloc (by omega) (Q #[I J 1,U ⟨#[107]⟩,I J 0,I J 15,U ⟨#[]⟩,I J 0] 146));have hxi:=q.hi;have OI:=ae (qF o (base:=w.heap.size+2) (by omega));have l:=ae (z o (fun j m _=>R.block j m));refine f _ _ (fun _=>l) ?_;clear f K l
   (try simp only[Act.put,nzL])
   have l:=ae (z _ (fun j m _=>V.block j m))
   iterate 3
    refine cG 7 rfl rfl (by as_aux_lemma=>kernel_rfl) (fun K f=>?_);go_simp;refine f _ _ (fun _=>l) ?_;clear f K
    (try simp only[Act.put,nzL])
   have aq:(o.alloc (Q #[I J 1,U ⟨#[107]⟩,I J 0,I J 15,U ⟨#[]⟩,I J 0] 146)).heap.size=o.heap.size+1:=by simp
   have AB:=ae (V.alloc (by omega) (Q #[U C,Y (N (T o.heap.size 0 Z)) 2 2] 125));refine af (i:=10) rfl (by as_aux_lemma=>kernel_rfl) (fun K f=>?_);go_simp;have Q9:=ae (q.below AB ly);have OA:=ae (own_below OI (br.alloc ly (Q #[U C,Y (N (T o.heap.size 0 Z)) 2 2] 125)) ly);refine f _ _ (fun _=>z _ (fun j m _=>AB.block j m)) ?_;clear f K
   (try simp only[Act.put,nzL])
   refine af (i:=11) rfl (by as_aux_lemma=>kernel_rfl) (fun K f=>?_);refine bI rfl (.tmp 22) (.tmp 31) 27 rfl (w.heap.size+2) 125 ph (QV #[U ⟨#[]⟩,Y Z 0 0]) 2 40 Tryz.underlying27 m ld fd qr rfl (by decide) (Y D b.length c5) b.length (b.flatMap bc) (by simp[Act.eval]) Q9.tgt.own (T (o.heap.size+1) 0 Z) 1 1 (bc (⟨C,2,lsI gZ⟩,o.heap.size,2)) (by simp[Act.eval]) rfl (fun j u hu=>lV (aq) _ _ _ j u hu) (by simp[bc,Value.oneCell']) (by unfold maxLen;omega) (by omega) (by have:=Q9.hi;have:=Q9.lt;omega) ?_;intro v' QX t s _;obtain⟨a7,c7,rfl⟩:=aF t;have Q0:=ae (z QX (fun j m n8=>(s.block j (lj m AB.size) n8).trans (AB.block j m)));obtain⟨c8,b8⟩:=Q9.addT (x:=⟨C,2,lsI gZ⟩) (g:=o.heap.size) (c:=2) (fun r hr e=>by have:=q.tgt.ltg r hr;omega) OA t s;have X9:=ae c8;have B9:=ae b8;clear t s c8 b8;refine f _ _ (fun _=>Q0) ?_;clear f K
   (try simp only[Act.put,nzL])
   refine af (i:=12) rfl (by as_aux_lemma=>kernel_rfl) (fun K f=>?_);go_simp;refine f _ _ (fun _=>Q0) ?_;clear f K
   (try simp only[Act.put,nzL])
   obtain⟨O,t7⟩:=Q0.out;have f7:QX.frozen? (T ZA.heap.size 1 Z)=QQ:=by simp[World.frozen?,O]
   have l7:=ai O;clear O;refine af (i:=13) rfl (by as_aux_lemma=>kernel_rfl) (fun K f=>?_);go_simp;refine f _ _ (fun h=>absurd rfl h) ?_;clear f K
   (try simp only[Act.put,nzL])
   refine aN (by as_aux_lemma=>kernel_rfl) ?_ _;go_wp2;have BB:=ae ((AB.mono (show w.heap.size+2<=wr.heap.size by omega)).trans B9.out);refine⟨⟨k+1,Y a7 (b.length+1) c7,b++[((⟨C,2,lsI gZ⟩,o.heap.size,2):TR)],by go_num,by rw[a8];exact Nat.succ_le_succ hk,by rw[a8];exact(by omega:b.length+1<=300),X9,QW.add (r:=(⟨C,2,lsI gZ⟩,o.heap.size,2)) (by show 2<=300;omega) oP,B2.trans (BB.mono (by omega))⟩,by simp[intOf];omega⟩
  ·have kr:=q.res
   have r0:wr.cell? (T (w.heap.size+1) 0 Z)=N (Y Z 0 0):=by simp[World.cell?,kr]
   have r1:wr.cell? (T (w.heap.size+1) 1 Z)=N (Y Z 0 0):=by simp[World.cell?,kr]
   have f0:wr.frozen? (T (w.heap.size+1) 0 Z)=QQ:=by simp[World.frozen?,kr]
   have f1:wr.frozen? (T (w.heap.size+1) 1 Z)=QQ:=by simp[World.frozen?,kr]
   have l0:=ai kr;clear kr;have BE:=ae ((B2.setCell (p:=(T (w.heap.size+1) 0 Z)) (vF _) (Y y n.length c2)).setCell (p:=(T (w.heap.size+1) 1 Z)) (vF _) (Y D b.length c5));have HE:=ae ((q.fin rfl rfl (by omega) n9 QW (Y y n.length c2) (Y D b.length c5)).mono (show w.heap.size<=w.heap.size+2 by omega));go_wp2;exact bp (v:=QV #[Y y n.length c2,Y D b.length c5]) (by simp[results,Tryz.results62,go_sem,r0,r1]) rfl ⟨_,_,_,_,_,_,_,_,rfl,HE,BE⟩
def DFn (n:Nat)(w:H)(e:Ending)(c:H):Prop:=∃ (a0:Option Addr) (n0 c0:Nat) (f0:Nat->Source) (a1:Option Addr) (c1:Nat) (b:List TR),e=QU (QV #[Y a0 n0 c0,Y a1 b.length c1])/\b.length=n/\n0<=250/\HSp w.heap.size c a0 n0 f0 a1 b.length (aT (b.map (·.1)))/\TRow c (w.heap.size+1) (Y a1 b.length c1) b/\GX b/\(∀ r∈b,r.1.name.size<=5000/\r.1.actN=3)/\Below w.heap.size w c
theorem kK (n:Nat)(hn:n<=200)(en:ByteArray)(he:en.size<=5000)(w:H):Calls Tryz.prog 95 #[I J n,U en] w fun e w'=>DFn n w e w':=by
 obtain⟨la,l,ph,n9,ro⟩:=JV fL;have X:(w.alloc (Q #[Y Z 0 0,Y Z 0 0] 29)).heap.size=w.heap.size+1:=by simp
 have Q0:((w.alloc (Q #[Y Z 0 0,Y Z 0 0] 29)).alloc (Q #[U ⟨#[97]⟩,U ⟨#[103,114,111,117,110,100]⟩] 121)).heap.size=w.heap.size+1+1:=by simp
 have A0:=ae (((((q9 w).alloc ly (Q #[Y Z 0 0,Y Z 0 0] 29))).alloc (by omega) (Q #[U ⟨#[97]⟩,U ⟨#[103,114,111,117,110,100]⟩] 121)).alloc (by omega) (Q #[Y (N (T (w.heap.size+1) 0 Z)) 1 1,Y Z 0 0] 29));have X1:Hid (SpX w.heap.size (w.heap.size+1+1) (w.heap.size+1) (((w.alloc (Q #[Y Z 0 0,Y Z 0 0] 29)).alloc (Q #[U ⟨#[97]⟩,U ⟨#[103,114,111,117,110,100]⟩] 121)).alloc (Q #[Y (N (T (w.heap.size+1) 0 Z)) 1 1,Y Z 0 0] 29)) (Y (N (T (w.heap.size+1) 0 Z)) 1 1) (Y Z 0 0) [⟨⟨#[97]⟩,⟨#[103,114,111,117,110,100]⟩⟩] []):=by have k1:=cM w (Q #[Y Z 0 0,Y Z 0 0] 29);have k2:=cM (w.alloc (Q #[Y Z 0 0,Y Z 0 0] 29)) (Q #[U ⟨#[97]⟩,U ⟨#[103,114,111,117,110,100]⟩] 121);rw[X] at k2;have BQ:=(eL (w.heap.size+1) (w.alloc (Q #[Y Z 0 0,Y Z 0 0] 29))).alloc (by omega) (Q #[U ⟨#[97]⟩,U ⟨#[103,114,111,117,110,100]⟩] 121);have h:=qG (LS:=[⟨⟨#[97]⟩,⟨#[103,114,111,117,110,100]⟩⟩]) (base:=w.heap.size+1) (base':=w.heap.size+1) ((BQ.block w.heap.size (j2 _)).trans k1) (j2 _) ly (by omega) (v0:=Y (N (T (w.heap.size+1) 0 Z)) 1 1) ⟨rfl,.inr ⟨w.heap.size+1,1,_,rfl,j5 _,k2,j5 _,by unfold maxLen;omega,rfl,rfl⟩⟩ (dr _ _);rw[Q0] at h;exact h
 have hw2:IntKind.i64.wrap ((n:Int) - 1)=(n:Int) - 1:=by rw[j6];omega
 clear X Q0;go_enter Tryz.func95,Tryz.ntmps95;go_wp2_with fail;generalize ((w.alloc (Q #[Y Z 0 0,Y Z 0 0] 29)).alloc (Q #[U ⟨#[97]⟩,U ⟨#[103,114,111,117,110,100]⟩] 121)).alloc (Q #[Y (N (T (w.heap.size+1) 0 Z)) 1 1,Y Z 0 0] 29)=W2 at X1 A0 ⊢;obtain⟨q,A,c2,hLS,V⟩:∃ (q:List Source) (A:Option Addr) (c2:Nat),q.length<=250/\Hid (SpX w.heap.size (w.heap.size+1+1) (w.heap.size+1) W2 (Y A q.length c2) (Y Z 0 0) q []):=⟨[⟨⟨#[97]⟩,⟨#[103,114,111,117,110,100]⟩⟩],N (T (w.heap.size+1) 0 Z),1,by show 1<=250;omega,X1⟩
 clear X1;generalize fd:w.heap.size+1+1=xb at V ⊢;clear fd;go_loopw [6] (fun i wr=>∃ (k:Nat) (v1:Value) (f:List TR),i=I J k/\k<=n/\f.length=k/\Hid (SpX w.heap.size xb (w.heap.size+1) wr (Y A q.length c2) v1 q f)/\Hid (GX f)/\Hid (∀ r∈f,r.1.name.size<=5000/\r.1.actN=3)/\Hid (Below w.heap.size w wr)) (fun i _=>n - (intOf i).toNat);case atStart=>exact⟨0,_,[],rfl,by omega,rfl,V,fun _ h=>absurd h nj,fun _ h=>absurd h nj,A0⟩
 case round =>
  obtain⟨k,v1,f,rfl,hk,QX,F,G2,N2,B2⟩:=hrel;have HK:Hid (f.length=k):=QX;obtain⟨G,c5,rfl⟩:=aF F.tgt.own;obtain⟨R,QY⟩:=F.cells;have n8:=F.lt;have hrn:f.length<=200:=by omega
  clear QX;by_cases hlt:k<n
  ·have hwk:IntKind.i64.wrap ((k:Int)+1)=(k:Int)+1:=by rw[j6];omega
   go_wp2_with fail;refine(iE (k+1) (by omega) _).mono ?_;rintro e ZA ⟨nb,rfl,hnb,Q9⟩;have ZB:=ae (F.below Q9 ly);have B3:=ae (B2.trans (Q9.mono B2.size));obtain⟨R,QY⟩:=ZB.cells;have n8:=ZB.lt;clear Q9;by_cases QW:(n:Int) - 1=(k:Int)
   case' pos =>
    go_wp2_with fail;obtain⟨t,o⟩:∃ z,z=en:=⟨_,rfl⟩
    have mv:t.size<=5000:=by rw[o];omega
   case' neg =>
    have ld:¬ (k:Int)=(n:Int) - 1:=fun e=>QW e.symm;clear QW;go_wp2_with fail;clear ld;obtain⟨t,o⟩:∃ z,z=nb:=⟨_,rfl⟩
    have mv:t.size<=5000:=by rw[o];omega
   all_goals
    rw[<-o];have HZ:=ae o;clear o;clear R QY;have B:=ae ZB.keepT;refine aH (BxT (Y A q.length c2) (Y G f.length c5) xb) 14 (by as_aux_lemma=>kernel_rfl) ?_;have m:=ae (B ZA.drew (fun j l _=>rfl))
    iterate 3
     refine aO 0 (v:=?_) rfl rfl (by as_aux_lemma=>kernel_rfl) (fun _ _ _ h=>h) rfl ?_ m ?_;rotate_left
     ·(intro wz L;obtain⟨s0,s1⟩:=L;go_simp)
      (try with_reducible rfl)
     (try simp only[Act.put,nzL])
    refine aO 4 (v:=?_) rfl rfl (by as_aux_lemma=>kernel_rfl) (fun _ _ _ h=>h) rfl ?_ m ?_;rotate_left
    ·(intro wz L;obtain⟨s0,s1⟩:=L;go_simp)
     (try with_reducible rfl)
    (try simp only[Act.put,nzL])
    refine af (i:=3) rfl (by as_aux_lemma=>kernel_rfl) (fun K b=>?_);go_simp;go_at_call 83;refine(iE k (by omega) _).mono ?_;rintro e wl ⟨C,rfl,htn,S⟩;have O:Hid (Below ZA.heap.size ZA wl):=(q9 ZA).drew.trans S;clear S m;have m:=ae (B wl (fun j l _=>O.block j l));refine b _ _ (fun _=>m) ?_;clear b K
    (try simp only[Act.put,nzL])
    refine af (i:=5) rfl (by as_aux_lemma=>kernel_rfl) (fun K b=>?_);go_simp;go_at_call 84;refine(bE _ _).mono ?_;rintro e wm ⟨rfl,Q2⟩;have M:=ae (O.trans (Q2.mono O.size));clear Q2 m;have m:=ae (B wm (fun j l _=>M.block j l));refine b _ _ (fun _=>m) ?_;clear b K
    (try simp only[Act.put,nzL])
    refine af (i:=6) rfl (by as_aux_lemma=>kernel_rfl) (fun K b=>?_);go_simp;go_at_call 85;refine(bs _ _).mono ?_;rintro e wo ⟨rfl,aq⟩;have P:=ae (M.trans (aq.mono M.size));clear aq m;have m:=ae (B wo (fun j l _=>P.block j l));refine b _ _ (fun _=>m) ?_;clear b K
    (try simp only[Act.put,nzL])
    refine af (i:=7) rfl (by as_aux_lemma=>kernel_rfl) (fun K b=>?_);go_simp;go_at_call 85;refine(bs _ _).mono ?_;rintro e s ⟨rfl,W⟩;have BN:=ae (P.trans (W.mono P.size));clear W m O M P;have hzn:=BN.size;have BI:=ae (BN.alloc (by omega) (Q #[I J 1,U t,I J 0,I J 12,U ⟨#[]⟩,I J 0,I J 15,U ⟨#[]⟩,I J 0] 146));have hxi:=ZB.hi;have OI:=ae (Ah s t (base:=w.heap.size+1) (by omega));have m:=ae (B s (fun j l _=>BN.block j l));refine b _ _ (fun _=>m) ?_;clear b K m
    (try simp only[Act.put,nzL])
    have m:=ae (B _ (fun j l _=>BI.block j l))
    iterate 3
     refine cG 8 rfl rfl (by as_aux_lemma=>kernel_rfl) (fun K b=>?_);go_simp;refine b _ _ (fun _=>m) ?_;clear b K
     (try simp only[Act.put,nzL])
    have bt:(s.alloc (Q #[I J 1,U t,I J 0,I J 12,U ⟨#[]⟩,I J 0,I J 15,U ⟨#[]⟩,I J 0] 146)).heap.size=s.heap.size+1:=by simp
    have AB:=ae (BI.alloc (by omega) (Q #[U C,Y (N (T s.heap.size 0 Z)) 3 3] 125));refine af (i:=11) rfl (by as_aux_lemma=>kernel_rfl) (fun K b=>?_);go_simp;have QZ:=ae (ZB.below AB ly);have OA:=ae (own_below OI (br.alloc ly (Q #[U C,Y (N (T s.heap.size 0 Z)) 3 3] 125)) ly);refine b _ _ (fun _=>B _ (fun j l _=>AB.block j l)) ?_;clear b K
    (try simp only[Act.put,nzL])
    refine af (i:=12) rfl (by as_aux_lemma=>kernel_rfl) (fun K b=>?_);refine bI rfl (.tmp 25) (.tmp 35) 27 rfl (w.heap.size+1) 125 la (QV #[U ⟨#[]⟩,Y Z 0 0]) 2 40 Tryz.underlying27 l ph n9 ro rfl (by decide) (Y G f.length c5) f.length (f.flatMap bc) (by simp[Act.eval]) QZ.tgt.own (T (s.heap.size+1) 0 Z) 1 1 (bc (⟨C,3,lsI (iR t)⟩,s.heap.size,3)) (by simp[Act.eval]) rfl (fun j u hu=>lV (bt) _ _ _ j u hu) (by simp[bc,Value.oneCell']) (by unfold maxLen;omega) (by omega) (by have:=QZ.hi;have:=QZ.lt;omega) ?_;intro v' w7 D y _;obtain⟨a7,c7,rfl⟩:=aF D;have S7:=ae (B w7 (fun j l qr=>(y.block j (lj l AB.size) qr).trans (AB.block j l)));obtain⟨c8,b8⟩:=QZ.addT (x:=⟨C,3,lsI (iR t)⟩) (g:=s.heap.size) (c:=3) (fun r E e=>by have:=ZB.tgt.ltg r E;omega) OA D y;have X9:=ae c8;have B9:=ae b8;clear D y c8 b8;refine b _ _ (fun _=>S7) ?_;clear b K
    (try simp only[Act.put,nzL])
    refine af (i:=13) rfl (by as_aux_lemma=>kernel_rfl) (fun K b=>?_);go_simp;refine b _ _ (fun _=>S7) ?_;clear b K
    (try simp only[Act.put,nzL])
    obtain⟨s7,t7⟩:=S7.out;have f7:w7.frozen? (T xb 1 Z)=QQ:=by simp[World.frozen?,s7]
    have l7:=ai s7;clear s7;refine af (i:=14) rfl (by as_aux_lemma=>kernel_rfl) (fun K b=>?_);go_simp;refine b _ _ (fun h=>absurd rfl h) ?_;clear b K
    (try simp only[Act.put,nzL])
    refine aN (by as_aux_lemma=>kernel_rfl) ?_ _;have o:=HZ.out;subst o;go_wp2;have BB:=ae ((AB.mono (show w.heap.size+1<=ZA.heap.size by omega)).trans B9.out)
    refine⟨⟨k+1,Y a7 (f.length+1) c7,f++[((⟨C,3,lsI (iR t)⟩,s.heap.size,3):TR)],by go_num,by omega,by rw[a8,HK.out];rfl,X9,G2.add (r:=(⟨C,3,lsI (iR t)⟩,s.heap.size,3)) (by show 3<=300;omega) (yv (by omega)),(fun r E=>by
     rcases hU.1 E with E | E
     ·exact N2 r E
     ·rw[eT.1 E];exact⟨by show C.size<=5000;omega,rfl⟩),B3.trans (BB.mono (by omega))⟩,by simp[intOf];omega⟩
  ·obtain rfl:k=n:=by omega
   have kr:=F.res;have r0:wr.cell? (T w.heap.size 0 Z)=N (Y Z 0 0):=by simp[World.cell?,kr]
   have r1:wr.cell? (T w.heap.size 1 Z)=N (Y Z 0 0):=by simp[World.cell?,kr]
   have f0:wr.frozen? (T w.heap.size 0 Z)=QQ:=by simp[World.frozen?,kr]
   have f1:wr.frozen? (T w.heap.size 1 Z)=QQ:=by simp[World.frozen?,kr]
   have l0:=ai kr;clear kr;have BE:=ae ((B2.setCell (p:=(T w.heap.size 0 Z)) ly (Y A q.length c2)).setCell (p:=(T w.heap.size 1 Z)) ly (Y G f.length c5));have HE:=ae ((F.fin rfl rfl (by omega) (by omega) G2 (Y A q.length c2) (Y G f.length c5)).mono (vF w.heap.size));have TE:=ae ((F.tgt.set (j:=0) (j2 _) (Y A q.length c2)).set (j:=1) (j2 _) (Y G f.length c5));go_wp2;exact bp (v:=QV #[Y A q.length c2,Y G f.length c5]) (by simp[results,Tryz.results95,go_sem,r0,r1]) rfl ⟨_,_,_,_,_,_,_,rfl,HK,by omega,HE,TE,G2,N2,BE⟩
theorem vJ (n:Nat)(hn:n<=200)(b:ByteArray)(f:b.size<=5000)(w:H):Calls Tryz.prog 95 #[I J n,U b] w fun e h=>DF w e h :=
 (kK n hn b f w).mono fun _ _ ⟨a0,n0,c0,f0,a1,c1,g,h1,_,_,h2,_,_,_,c⟩=>⟨a0,n0,c0,f0,a1,g.length,c1,_,h1,h2,c⟩
end Go.Proofs.YtamacmnikdejeaaGreatDoor.Vp
