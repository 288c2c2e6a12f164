import Derived.Test.YtpmnbjkjpnclaaaGreatDoorLN
import Derived.Test.YtpmnbjkjpnclaaaGreatDoorMA
set_option maxRecDepth 100000
set_option maxHeartbeats 8000000
set_option linter.unusedSimpArgs false
open Go renaming Addr.mk->N,Value.slice->Y,Value.string->U,Value.int->Q,Value.agg->ZG,Obj.cells->J,IntKind.i64->I,World->M,Ending.returned->ZD,World.heap->z
open Option renaming none->Z,some->T
open Bool renaming false->ZA,true->ZF
open Array renaming size->B
namespace Go.Proofs.YtpmnbjkjpnclaaaGreatDoor.Vp
open Tryz RowKit Ca
theorem eC (a0:Option Addr)(n0 c0:Nat)(f0:Nat->Source)(a1:Option Addr)(n1 c1:Nat)(f1:Nat->Target)(t:ByteArray)(w:M)(hn0:(n0:Int)<=1048576)(hn1:(n1:Int)<=1048576)(O:SlSource w a0 n0 f0)(ZM:SlTarget w a1 n1 f1)(ZP:∀i,i<n1->aY (f1 i)):Calls Tryz.prog 91 #[ZG #[Y a0 n0 c0,Y a1 n1 c1],U t] w λe ZJ=>∃r s R,e=ZD (ZG #[r,s])/\ZJ.ownsRow (B (z w)+3) 142 2 r (keepS f0 t n0).length ((keepS f0 t n0).flatMap bi)/\TRow ZJ (B (z w)+3) s R/\R.map (·.1)=keepT f1 t n1/\Below (B (z w)) w ZJ:=by
 have V0:=ae O;have V1:=ae ZM;have HF:=ae ZP;clear O ZM ZP;obtain⟨th,hi,ur,At,n9⟩:=JT ip;obtain⟨ld,hj,ph,ex,X⟩:=JT fJ;have A0:=ae ((((BS w).alloc ly (J #[Y a0 n0 c0,Y a1 n1 c1] 27)).alloc (by simp) (J #[Y Z 0 0,Y Z 0 0] 27)).alloc (by simp;omega) (J #[Y Z 0 0,Y Z 0 0] 27));have X0:=ae (yd w (Y a0 n0 c0) (Y a1 n1 c1) 27);go_enter func91,ntmps91;go_wp2;generalize ((w.alloc (J #[Y a0 n0 c0,Y a1 n1 c1] 27)).alloc (J #[Y Z 0 0,Y Z 0 0] 27)).alloc (J #[Y Z 0 0,Y Z 0 0] 27)=W at A0 X0 ⊢;go_loopw [6] (λi wr=>∃(k:Nat) (r:Value),k<=n0/\i=Q I k/\Hid (Boxes wr (B (z w)) (Y a0 n0 c0) (Y a1 n1 c1) r (Y Z 0 0))/\Hid (wr.ownsRow (B (z w)+3) 142 2 r (keepS f0 t k).length ((keepS f0 t k).flatMap bi))/\Hid (Below (B (z w)) w wr)) (λi _=>n0 - (intOf i).toNat);case atStart=>exact⟨0,_,by omega,rfl,X0,ES _ _ _ _,A0⟩
 case round =>
  obtain⟨k,r,hk,rfl,f,D,q⟩:=hrel;have aq:=f.lt;by_cases ZS:k<n0
  ·obtain⟨b,off,rfl,u⟩:=V0.resolve_left (by omega);obtain⟨ZI,ZL⟩:=(u.2 k ZS).aa q u.1;clear u;have hll:=gN f0 t k;have P:=f.a0;cases hq:((f0 k).e.toList == t.toList) with
   |true =>have ZR:=ae hq;go_wp2;exact⟨⟨k+1,r,by omega,by go_num,f,by show World.ownsRow _ _ _ _ _ _ _;rw[wE ZR.out];exact D,q⟩,by simp[intOf];omega⟩
   |false =>
    have ZR:=ae hq;obtain⟨x0,y0⟩:=f.o0;have y:=ae ((cM (B (z w)+3) wr).drew.alloc (by simp;omega) (J #[U (f0 k).e,U (f0 k).y] 142));go_wp2_with fail
    go_region_law (first
     |(refine cD rfl (.tmp 25) (.tmp 31) 24 rfl (B (z w)+3) 142 th (ZG #[U ⟨#[]⟩,U ⟨#[]⟩]) 2 32 LH hi ur At n9 rfl (by decide) r (keepS f0 t k).length ((keepS f0 t k).flatMap bi) (by simp[Act.eval]) (D.drew.alloc _) (N (B (z wr)) 0 Z) 1 1 (bi (f0 k)) (by simp[Act.eval]) rfl (cL wr.drew _ _ _) (by simp[bi,Value.oneCell']) (by unfold maxLen;omega) (by omega) (by simp<;>omega) ?_;intro v' w2 n l C;obtain⟨gs,cs,rfl⟩:=dI n (by omega);have O2:=ae n;have B2:=ae (bg y l (by simp<;>omega) (λj e=>(D.lt j e).1));obtain⟨x2,y2⟩:=(f.aa B2 ly).o0;clear n l C))
    all_goals
     clear x0 y0 P;go_wp2;exact⟨⟨k+1,_,by omega,by go_num,(f.aa B2 ly).set0 _,by show World.ownsRow _ _ _ _ _ _ _;rw[wF ZR.out,eL,JA];simpa using aO O2.out (by omega) _,(q.trans (B2.mono (by omega))).setCell (by simp;omega) _⟩,by simp[intOf];omega⟩
  ·have e:n0=k:=by omega
   subst e;have P:=f.a0;have ZO:=f.a1;go_wp2;clear P ZO ZS hk;generalize wr=W1 at f D q aq ⊢;go_loopw [7] (λi wr=>∃(k:Nat) (s:Value) (R:List TR),k<=n1/\i=Q I k/\Hid (Boxes wr (B (z w)) (Y a0 n0 c0) (Y a1 n1 c1) r s)/\Hid (wr.ownsRow (B (z w)+3) 142 2 r (keepS f0 t n0).length ((keepS f0 t n0).flatMap bi))/\Hid (TRow wr (B (z w)+3) s R)/\Hid (R.map (·.1)=keepT f1 t k)/\Hid (Below (B (z w)) w wr)) (λi _=>n1 - (intOf i).toNat);case atStart=>exact⟨0,_,[],by omega,rfl,f,D,cP _ _,rfl,q⟩
   case round =>
    clear f D q;obtain⟨k,s,R,hk,rfl,f,G,A,L,q⟩:=hrel;have hlt4:=f.lt;by_cases ZS:k<n1
    ·obtain⟨b,off,rfl,u⟩:=V1.resolve_left (by omega);obtain⟨ZI,S,kc,ZL,hx⟩:=(u.2 k ZS).aa q ly u.1;have HX:=ae hx;have qr:=u.1;clear u hx;have hRl:R.length<=1048576:=by have h1:=A9 List.length L.out;have h2:=ja f1 t k;simp at h1;omega
     have n8:((f1 k).m:Int)<=1048576:=by have:=HF.out k ZS;unfold aY at this;omega
     have ZO:=f.a1;have fd:¬ b=B (z w)+1+1:=by omega
     have bt:¬ (B (z w))+1+1=b:=by omega
     have hbw:b<B (z wr):=lj qr q.size;cases hq:((f1 k).e.toList == t.toList) with
     |true =>have ZR:=ae hq;go_wp2;exact⟨⟨k+1,s,R,by omega,by go_num,f,G,A,by show _=keepT f1 t (k+1);rw[wG ZR.out];exact L,q⟩,by simp[intOf];omega⟩
     |false =>
      have ZR:=ae hq;have ST:Hid (∀V,Below (B (z w)+3) wr V->(V.cell? (N (B (z w)+1+1) 1 Z)=T s/\(B (z w))+1+1<B (z V))/\(V.cell? (N (B (z w)) 1 Z)=T (Y (T (N b off Z)) n1 c1)/\(B (z w))<B (z V))/\V.cell? (N b (off+k*2) Z)=T (U (f1 k).e)/\V.cell? (N b (off+k*2+1) Z)=T (Y S (f1 k).m kc)/\b<B (z V)):=λV ZQ=>by have hz:=ZQ.size;have h:=f.aa ZQ ly;exact⟨⟨h.o1.1,by have:=h.lt;omega⟩,⟨h.a1,by have:=h.lt;omega⟩,(ZQ.cell (p:=(N b (off+k*2) Z)) (by show b<B (z w)+3;omega)).trans ZI,(ZQ.cell (p:=(N b (off+k*2+1) Z)) (by show b<B (z w)+3;omega)).trans ZL,by omega⟩
      have y:=ae (BS wr).drew;have hki:(k:Int)<(n1:Int):=by omega
      go_wp2_with fail;refine aD (λV=>(V.cell? (N (B (z w)+1+1) 1 Z)=T s/\(B (z w))+1+1<B (z V))/\(V.cell? (N (B (z w)) 1 Z)=T (Y (T (N b off Z)) n1 c1)/\(B (z w))<B (z V))/\V.cell? (N b (off+k*2) Z)=T (U (f1 k).e)/\V.cell? (N b (off+k*2+1) Z)=T (Y S (f1 k).m kc)/\b<B (z V)) 19 (by kernel_rfl) ?_;have o:=ae (ST _ (y.mono (by omega)));clear ZO ZI ZL fd bt;generalize wr.drew=v2 at y o ⊢;iterate 14
       refine aH 0 (v:=?_) rfl rfl (by kernel_rfl) (λ_ _ _ h=>h) rfl ?_ o ?_;rotate_left
       ·(intro wz mv;obtain⟨⟨s0,s1⟩,⟨s2,s3⟩,s4,s5,s6⟩:=mv;go_simp)
        (try with_reducible rfl)
       (try simp only[Act.put,nzL])
      refine ai (i:=14) rfl (by kernel_rfl) λK m=>?_;go_simp;go_at_call 93;refine(gX S (f1 k).m kc (f1 k).D _ n8 (HX.aa y ly)).mono ?_;rintro e wC ⟨g,c,rfl,ZK,hB⟩;have DC:=ae (y.trans (hB.mono y.size));have sm:=DC.size;have ro:=(cO ZK).1;have hz1:=y.size;have OC:=ae (aC ZK (base':=B (z w)+3) (by omega));have ZN:B (z wr)<=g:=by omega
      clear hB ZK ro o;have o:=ae (ST _ (DC.mono (by omega)));refine m _ _ (λ_=>o) ?_;clear m K
      (try simp only[Act.put,nzL])
      refine ai (i:=15) rfl (by kernel_rfl) λK m=>?_;go_simp;refine m _ _ (λ_=>o) ?_;clear m K o
      (try simp only[Act.put,nzL])
      have E:=ae (DC.alloc sm (J #[U (f1 k).e,Y (T (N g 0 Z)) (f1 k).m c] 146));have o:=ae (ST _ (E.mono (by omega)));refine ai (i:=16) rfl (by kernel_rfl) λK m=>?_;go_simp;refine m _ _ (λ_=>o) ?_;clear m K o
      (try simp only[Act.put,nzL])
      refine ai (i:=17) rfl (by kernel_rfl) λK m=>?_;refine cD rfl (.tmp 50) (.tmp 65) 25 rfl (B (z w)+3) 146 ld (ZG #[U ⟨#[]⟩,Y Z 0 0]) 2 40 J9 hj ph ex X rfl (by decide) s R.length (R.flatMap aS) (by simp[Act.eval]) ((A.aa DC ly).x.alloc _) (N (B (z wC)) 0 Z) 1 1 (aS (f1 k,g,c)) (by simp[Act.eval]) rfl (cL wC _ _ _) (by simp[aS,Value.oneCell']) (by unfold maxLen;omega) (by omega) (by simp;omega) ?_;intro v' w2 n l C;obtain⟨gs,cs,rfl⟩:=dI n (by omega);have T2:=ae (A.more (x:=f1 k) (g:=g) (c:=c) E ZN (by omega) (OC.alloc _) n l);have E2:=ae (bg (E.mono (show (B (z w))+3<=B (z wr) by omega)) l (by simp;omega) (λj e=>(A.x.lt j e).1));have Bk:=ae ((own_below G E ly).kept l (yc (own_below G E ly) ((A.aa DC ly).x.alloc _) (by decide)));have H:=ae (f.aa E2 ly);obtain⟨x2,y2⟩:=H.o1;have hz2:=H.lt;have o:=ae (ST _ E2);clear n l C;refine m _ _ (λ_=>o) ?_;clear m K
      (try simp only[Act.put,nzL])
      refine ai (i:=18) rfl (by kernel_rfl) λK m=>?_;go_simp;refine m _ _ (λ_=>o) ?_;clear m K
      (try simp only[Act.put,nzL])
      have hz3:B (z w)+1+1<B (z w2):=by omega
      refine ai (i:=19) rfl (by kernel_rfl) λK m=>?_;go_simp;refine m _ _ (λh=>absurd rfl h) ?_;clear m K o
      (try simp only[Act.put,nzL])
      refine aT (by kernel_rfl) ?_ _;clear x2 y2;go_wp2;exact⟨⟨k+1,_,R++[(f1 k,g,c)],by omega,by go_num,H.set1 _,aO Bk (by omega) _,T2.set (by omega) _,by show _=keepT f1 t (k+1);rw[wH ZR.out,JS,L.out];rfl,(q.trans (E2.mono (by omega))).setCell (by simp;omega) _⟩,by simp[intOf];omega⟩
    ·have e:n1=k:=by omega
     subst e;have ZO:=f.a1;obtain⟨sa,sc,rfl⟩:=aL G;obtain⟨ta,tc,rfl⟩:=aL A.x;obtain⟨r0,q0⟩:=f.r0;obtain⟨r1,q1⟩:=f.r1;obtain⟨m0,_⟩:=f.o0;obtain⟨m1,_⟩:=f.o1;go_wp2;exact bp (v:=ZG #[Y sa _ sc,Y ta _ tc]) (by simp[results,results91,go_sem,r0,r1]) rfl ⟨_,_,R,rfl,aO (aO G (by omega) _) (by omega) _,(A.set (by omega) _).set (by omega) _,L,(q.setCell (by simp) _).setCell (by simp) _⟩
theorem sC (a0:Option Addr)(n0 c0:Nat)(f0:Nat->Source)(a1:Option Addr)(n1 c1:Nat)(f1:Nat->Target)(t tx:ByteArray)(w:M)(hn0:(n0:Int)<=1048576)(hn1:(n1:Int)<=1048576)(DS:SlSource w a0 n0 f0)(DE:SlTarget w a1 n1 f1)(sm:∀i,i<n1->aY (f1 i))(hs:∀i,i<n1->∀j,j<(f1 i).m->((f1 i).D j).s.size<=maxLen):Calls Tryz.prog 33 #[ZG #[Y a0 n0 c0,Y a1 n1 c1],U t,U tx] w λe ZI=>∃v0 v1 R,e=ZD (.tuple #[ZG #[v0,v1],Q I (mX n0 f0 n1 f1 t tx)])/\ZI.ownsRow (B (z w)) 142 2 v0 (jU n0 f0 n1 f1 t tx).length ((jU n0 f0 n1 f1 t tx).flatMap bi)/\TRow ZI (B (z w)) v1 R/\R.map (·.1)=mZ n0 f0 n1 f1 t tx/\Below (B (z w)) w ZI:=by
 have V0:=ae DS;have V1:=ae DE;have HF:=ae sm;have HS:=ae hs;clear DS DE sm hs;obtain⟨H,ZP,O,P,G⟩:=JT ip;obtain⟨C,hC⟩:∃C,C=be n0 f0 n1 f1:=⟨_,rfl⟩
 obtain⟨D,hD⟩:∃D,D=mX n0 f0 n1 f1 t tx:=⟨_,rfl⟩
 obtain⟨LS,ur⟩:∃LS,LS=jU n0 f0 n1 f1 t tx:=⟨_,rfl⟩
 obtain⟨LT,ph⟩:∃LT,LT=mZ n0 f0 n1 f1 t tx:=⟨_,rfl⟩
 rw[<-hD,<-ur,<-ph];have HC:=ae hC;have HD:=ae (hD.trans (by unfold mX;rw[<-hC]));have y:=ae (ur.trans (by unfold jU;rw[<-hD]));have ld:=ae (ph.trans (by unfold mZ;rw[<-hD]));clear hC hD ur ph;obtain⟨W,n9⟩:∃W:M,(w.alloc (J #[Y a0 n0 c0,Y a1 n1 c1] 27)).alloc (J #[Y Z 0 0,Y Z 0 0] 27)=W:=⟨_,rfl⟩
 obtain⟨A0,-,-,-⟩:=nb2 n9;have DQ:=ae n9;clear n9;have X0:=ae (r8 w (Y a0 n0 c0) (Y a1 n1 c1) 27);go_enter func33,ntmps33;go_wp2_with fail;rw[DQ.out] at X0 ⊢;clear DQ;refine(dK a0 n0 c0 f0 a1 n1 c1 f1 _ hn0 hn1 (V0.aa A0 ly) (V1.aa A0 ly) HF HS).mono ?_;rintro e w1 ⟨rfl,x⟩;rw[<-HC.out];have X1:=ae (X0.aa x X0.lt');have B1:=ae (A0.trans (x.mono A0.size));clear x A0 X0;by_cases hc:C=0;case neg =>
  have hd:=HD.out;rw[nL hc] at hd;have r:=y.out;rw[eT (by omega)] at r;have o:=ld.out;rw[eT (by omega)] at o;subst hd r o;have hc':(C == 0)=ZA:=by simpa using hc
  obtain⟨r0,q0⟩:=X1.r0;obtain⟨r1,ZL⟩:=X1.r1;go_wp2;exact bp (v:=.tuple #[ZG #[Y Z 0 0,Y Z 0 0],Q I 1]) (by simp[results,OH,go_sem,r0,r1]) rfl ⟨_,_,[],rfl,ES _ _ _ _,cP _ _,rfl,(B1.setCell (by simp) _).setCell (by simp) _⟩
 subst hc;have hz:=jT HC.symm;have HZ:=ae hz;clear hz HC;have th:=HD.out;rw[eT (by omega)] at th;have At:=ae th;clear th HD;go_wp2_with fail;refine(cH t _).mono ?_;rintro e w2 ⟨rfl,x⟩;have ZM:=ae (X1.aa x X1.lt');have ZN:=ae (B1.trans (x.mono B1.size));clear x X1 B1;by_cases n:aA t=ZA∨2000<(tx.size:Int)
 ·have hd:=At.out;rw[nL n] at hd;have r:=y.out;rw[eT (by omega)] at r;have o:=ld.out;rw[eT (by omega)] at o;subst hd r o;obtain⟨r0,q0⟩:=ZM.r0;obtain⟨r1,ZL⟩:=ZM.r1;cases hn:aA t with
  |false =>clear n;go_wp2;exact bp (v:=.tuple #[ZG #[Y Z 0 0,Y Z 0 0],Q I 2]) (by simp[results,OH,go_sem,r0,r1]) rfl ⟨_,_,[],rfl,ES _ _ _ _,cP _ _,rfl,(ZN.setCell (by simp) _).setCell (by simp) _⟩
  |true =>have Fm:(2000:Int)<tx.size:=n.resolve_left (by simp[hn]);clear n;go_wp2;exact bp (v:=.tuple #[ZG #[Y Z 0 0,Y Z 0 0],Q I 2]) (by simp[results,OH,go_sem,r0,r1]) rfl ⟨_,_,[],rfl,ES _ _ _ _,cP _ _,rfl,(ZN.setCell (by simp) _).setCell (by simp) _⟩
 have Bk:=At.out;rw[eT n] at Bk;have CD:=ae Bk;have hn:aA t=ZF:=by
  cases h:aA t with
  |true=>rfl
  |false=>exact absurd (.inl h) n
 have Fm:¬ (2000:Int)<tx.size:=λh=>n (.inr h);clear Bk At n;have k0:=ZM.a0;have k1:=ZM.a1;rw[hn];go_wp2_with fail;refine(eC a0 n0 c0 f0 a1 n1 c1 f1 t _ hn0 hn1 (V0.aa ZN ly) (V1.aa ZN ly) HF).mono ?_;rintro e w3 ⟨v0,v1,R,rfl,hO,hR,hM,x⟩;have hlt2:=ZM.lt;have X3:=ae (ZM.aa x ZM.lt');have B3:=ae (ZN.trans (x.mono ZN.size));obtain⟨sa,sc,rfl⟩:=aL hO;obtain⟨ta,tc,rfl⟩:=aL hR.x;have eR:R.length=(keepT f1 t n1).length:=by rw[<-hM];simp
 have FM:=gN f0 t n0;have FK:=ja f1 t n1;obtain⟨L,hL⟩:∃L,L=keepS f0 t n0:=⟨_,rfl⟩
 obtain⟨K,hK⟩:∃K,K=keepT f1 t n1:=⟨_,rfl⟩
 rw[<-hL] at hO FM ⊢;rw[<-hK] at hM FK eR;have ZR:=CD.out;rw[<-hL,<-hK] at ZR;have r:=y.out;rw[<-hL] at r;have o:=ld.out;rw[<-hK] at o;have ER:=ae eR;have hlr:R.length<=n1:=by omega
 clear CD y ld hL hK x k0 k1 hn ZM ZN eR;have O3:=ae (aC hO (base':=B (z w)) (by omega));have RX:Hid (∀ZI,Below (B (z w3)) w3 ZI->TRow ZI (B (z w2)+3) (Y ta R.length tc) R):=λZI hb=>hR.aa hb ly;have HM:=ae hM;have hll:(L.length:Int)<=1048576:=by omega
 clear hO hR hM;obtain⟨w4,V⟩:∃W:M,w3.alloc (J #[Y sa L.length sc,Y ta R.length tc] 27)=W:=⟨_,rfl⟩
 obtain⟨DB,-,aq⟩:=nb1 V;have n8:=ae V;clear V;have ZK:=ae (sj w3 (Y sa L.length sc) (Y ta R.length tc) 27);have X4:=ae (X3.aa DB X3.lt');have B4:=ae (B3.trans (DB.mono B3.size));have O4:=ae (own_below O3 DB ly);have qr:=ae DB.out;have Fd:B (z w)+1<B (z w3):=X3.lt;have c8:=ZK.c0;have c9:=ZK.c1;clear O3 DB;by_cases hc3:(200:Int)<=L.length+R.length;{rw[nL (by have:=ER.out;omega)] at ZR;rw[eT (by omega)] at r o;subst ZR r o;obtain⟨r0,q0⟩:=X3.r0;obtain⟨r1,ZL⟩:=X3.r1;clear c8 c9;go_wp2;exact bp (v:=.tuple #[ZG #[Y Z 0 0,Y Z 0 0],Q I 3]) (by simp[results,OH,go_sem,r0,r1,Fd]) rfl ⟨_,_,[],rfl,ES _ _ _ _,cP _ _,rfl,((B3.setCell (by simp) _).setCell (by simp) _).alloc (by have:=B3.size;simp;omega) _⟩};clear X3 B3;rw[eT (by have:=ER.out;omega)] at ZR;rw[nL ZR] at r o;subst ZR o;have y:=ae r;clear r;go_wp2;rw[n8.out] at ZK c8 c9 ⊢;clear n8;generalize (B (z w3))=X at ZK c8 c9 Fd aq RX qr ⊢;obtain⟨u,ro⟩:∃u,u=B (z w4):=⟨_,rfl⟩
 have E0:Hid (Below u w4 (w4.alloc (J #[] 142))):=by rw[ro];exact br.alloc ly _
 have W0:Hid ((w4.alloc (J #[] 142)).ownsRow u 142 2 (Y (T (N (X+1) 0 Z)) 0 0) 0 []):=by rw[<-aq];exact KJ w4 #[] 0 (by omega) (by unfold maxLen;omega) rfl
 have ZS:X<u:=by have:=ZK.lt;omega
 have g:=ae ro;have ZO:=ae aq;clear ro aq;go_loopw [9,10,11] (λv d i wr=>∃(k:Nat) (db:Bool),k<=L.length/\i=Q I k/\d=.bool db/\Hid (db=dX L t k)/\Hid (wr.ownsRow u 142 2 v (bS L ⟨t,tx⟩ t k).length ((bS L ⟨t,tx⟩ t k).flatMap bi))/\Hid (Below u w4 wr)) (λ_ _ i _=>L.length - (intOf i).toNat);case atStart=>exact⟨0,ZA,by omega,rfl,rfl,rfl,W0,E0⟩
 case round =>
  obtain⟨k,db,hk,rfl,rfl,E,A,m⟩:=hrel;have e8:=(m.cell (p:=(N X 0 Z)) ZS).trans c8;have Fk:=pZ L ⟨t,tx⟩ t k;obtain⟨hlen1,ex⟩:=Fk;have HL2:=ae ex;clear ex;by_cases o:k<L.length
  ·obtain⟨b,off,rfl,hr⟩:=(lU O4).resolve_left (by omega);obtain⟨p0,p1⟩:=hr.2 k o;have bt:b<u:=by have:=hr.1;have:=g.out;omega
   have d0:=(m.cell (p:=(N b (off+k*2) Z)) bt).trans p0;have d1:=(m.cell (p:=(N b (off+k*2+1) Z)) bt).trans p1;clear hr;cases db with
   |true =>
    have HI:Hid (bS L ⟨t,tx⟩ t (k+1)=bS L ⟨t,tx⟩ t k++[bY L k]):=by show(if _ then _ else _)=_;rw[eT (by rw[<-E.out];simp)]
    have HN:Hid (ZF=dX L t (k+1)):=by show ZF=(dX L t k || _);rw[<-E.out];rfl
    go_wp2_with (at_builtin;(refine IS _ rfl (.tmp 63) (.tmp 69) 24 rfl u 142 H (ZG #[U ⟨#[]⟩,U ⟨#[]⟩]) 2 32 LH ZP O P G rfl (by decide) _ (bS L ⟨t,tx⟩ t k).length ((bS L ⟨t,tx⟩ t k).flatMap bi) (by simp[Act.eval]) (A.alloc _) (N (B (z wr)) 0 Z) 1 1 (bi (bY L k)) (by simp[Act.eval]) rfl (cL wr _ _ _) (by simp[bi,Value.oneCell']) (by unfold maxLen;omega) (by omega) (by have:=m.size;have:=g.out;simp;omega) ?_;intro vy wy l f q;have OY:=ae l;have BY:=ae (bg (m.alloc (by have:=m.size;have:=g.out;omega) (J #[U (bY L k).e,U (bY L k).y] 142)) f (by have:=m.size;have:=g.out;simp;omega) (λj e=>(A.lt j e).1));clear l f q));exact⟨⟨k+1,ZF,by omega,by go_num,rfl,HN,by show World.ownsRow _ _ _ _ _ _ _;rw[HI.out,eL,JA];simpa using OY.out,BY⟩,by simp[intOf];omega⟩
   |false =>
    cases hq:aG t (bY L k).e with
    |true =>
     have HI:Hid (bS L ⟨t,tx⟩ t (k+1)=bS L ⟨t,tx⟩ t k++[⟨t,tx⟩]++[bY L k]):=by show(if _ then _ else _)=_;rw[nL ⟨E.symm,hq⟩]
     have HN:Hid (ZF=dX L t (k+1)):=by show ZF=(dX L t k || _);rw[hq];simp
     obtain⟨ZL,q2⟩:=pY hq;clear hq;go_wp2_with (at_builtin;first|(refine IS _ rfl (.tmp 57) (.tmp 61) 24 rfl u 142 H (ZG #[U ⟨#[]⟩,U ⟨#[]⟩]) 2 32 LH ZP O P G rfl (by decide) _ (bS L ⟨t,tx⟩ t k).length ((bS L ⟨t,tx⟩ t k).flatMap bi) (by simp[Act.eval]) (A.alloc _) (N (B (z wr)) 0 Z) 1 1 (bi ⟨t,tx⟩) (by simp[Act.eval]) rfl (cL wr _ _ _) (by simp[bi,Value.oneCell']) (by unfold maxLen;omega) (by omega) (by have:=m.size;have:=g.out;simp;omega) ?_;intro vx wx l f q;have OX:=ae l;have S:=ae (bg (m.alloc (by have:=m.size;have:=g.out;omega) (J #[U t,U tx] 142)) f (by have:=m.size;have:=g.out;simp;omega) (λj e=>(A.lt j e).1));have f8:=(S.cell (p:=(N X 0 Z)) ZS).trans c8;have g0:=(S.cell (p:=(N b (off+k*2) Z)) bt).trans p0;have g1:=(S.cell (p:=(N b (off+k*2+1) Z)) bt).trans p1;clear l f q)|(refine IS _ rfl (.tmp 63) (.tmp 69) 24 rfl u 142 H (ZG #[U ⟨#[]⟩,U ⟨#[]⟩]) 2 32 LH ZP O P G rfl (by decide) _ ((bS L ⟨t,tx⟩ t k).length+1) ((bS L ⟨t,tx⟩ t k).flatMap bi++bi ⟨t,tx⟩) (by simp[Act.eval]) (OX.alloc _) (N (B (z wx)) 0 Z) 1 1 (bi (bY L k)) (by simp[Act.eval]) rfl (cL wx _ _ _) (by simp[bi,Value.oneCell']) (by unfold maxLen;omega) (by omega) (by have:=S.size;have:=g.out;simp;omega) ?_;intro vy wy l f q;have OY:=ae l;have BY:=ae (bg (S.alloc (by have:=S.size;have:=g.out;omega) (J #[U (bY L k).e,U (bY L k).y] 142)) f (by have:=S.size;have:=g.out;simp;omega) (λj e=>(OX.lt j e).1));clear l f q));exact⟨⟨k+1,ZF,by omega,by go_num,rfl,HN,by show World.ownsRow _ _ _ _ _ _ _;rw[HI.out,eL,eL,JA,JA];simpa using OY.out,BY⟩,by simp[intOf];omega⟩
    |false =>
     have HI:Hid (bS L ⟨t,tx⟩ t (k+1)=bS L ⟨t,tx⟩ t k++[bY L k]):=by show(if _ then _ else _)=_;rw[eT (by rw[hq];simp)]
     have HN:Hid (ZA=dX L t (k+1)):=by show ZA=(dX L t k || _);rw[<-E.out,hq];rfl
     have HQ:=ae (sf hq);clear hq;rcases HQ.out with ZL|⟨ZL,q2⟩
     all_goals
      go_wp2_with (at_builtin;(refine IS _ rfl (.tmp 63) (.tmp 69) 24 rfl u 142 H (ZG #[U ⟨#[]⟩,U ⟨#[]⟩]) 2 32 LH ZP O P G rfl (by decide) _ (bS L ⟨t,tx⟩ t k).length ((bS L ⟨t,tx⟩ t k).flatMap bi) (by simp[Act.eval]) (A.alloc _) (N (B (z wr)) 0 Z) 1 1 (bi (bY L k)) (by simp[Act.eval]) rfl (cL wr _ _ _) (by simp[bi,Value.oneCell']) (by unfold maxLen;omega) (by omega) (by have:=m.size;have:=g.out;simp;omega) ?_;intro vy wy l f q;have OY:=ae l;have BY:=ae (bg (m.alloc (by have:=m.size;have:=g.out;omega) (J #[U (bY L k).e,U (bY L k).y] 142)) f (by have:=m.size;have:=g.out;simp;omega) (λj e=>(A.lt j e).1));clear l f q));exact⟨⟨k+1,ZA,by omega,by go_num,rfl,HN,by show World.ownsRow _ _ _ _ _ _ _;rw[HI.out,eL,JA];simpa using OY.out,BY⟩,by simp[intOf];omega⟩
  ·have e:L.length=k:=by omega
   subst e;cases db with
   |true =>
    have ZQ:pd L ⟨t,tx⟩ t=bS L ⟨t,tx⟩ t L.length:=by unfold pd;rw[nL E.symm]
    obtain⟨va,vc,rfl⟩:=aL A;have OF:Hid (wr.ownsRow u 142 2 (Y va (bS L ⟨t,tx⟩ t L.length).length vc) LS.length (LS.flatMap bi)):=by show World.ownsRow _ _ _ _ _ _ _;rw[y.out,ZQ];exact A
    have mv:=g.out;have fd:=ZO.out;have H1:=ae mv;have H2:=ae fd;have H3:=ae ZQ;have e9:=(m.cell (p:=(N X 1 Z)) ZS).trans c9;have y8:=(m.frozen (p:=(N X 0 Z)) ZS).trans ZK.z0;obtain⟨r0,q0⟩:=(X4.aa m (by omega)).r0;obtain⟨r1,ZL⟩:=(X4.aa m (by omega)).r1;clear mv fd ZQ;go_wp2;have mv:=g.out;have fd:=ZO.out;exact bp (v:=.tuple #[ZG #[Y va (bS L ⟨t,tx⟩ t L.length).length vc,Y ta R.length tc],Q I 0]) (by simp[results,OH,go_sem,r0,r1]) rfl ⟨_,_,R,rfl,aC (aO (aO (aO OF (R:=X) (j:=0) (by omega) _) (R:=B (z w)+1) (j:=0) (by omega) _) (R:=B (z w)+1) (j:=1) (by omega) _) (by omega),fC (((RX _ ((qr.trans (m.mono (by omega))).setCell (p:=(N X 0 Z)) ly _)).set (X:=B (z w)+1) (j:=0) (by omega) _).set (X:=B (z w)+1) (j:=1) (by omega) _) (by omega),HM,(((B4.trans (m.mono (by omega))).setCell (by simp;omega) _).setCell (by simp) _).setCell (by simp) _⟩
   |false =>
    go_wp2_with (at_builtin;(refine IS _ rfl (.tmp 73) (.tmp 77) 24 rfl u 142 H (ZG #[U ⟨#[]⟩,U ⟨#[]⟩]) 2 32 LH ZP O P G rfl (by decide) _ (bS L ⟨t,tx⟩ t L.length).length ((bS L ⟨t,tx⟩ t L.length).flatMap bi) (by simp[Act.eval]) (A.alloc _) (N (B (z wr)) 0 Z) 1 1 (bi ⟨t,tx⟩) (by simp[Act.eval]) rfl (cL wr _ _ _) (by simp[bi,Value.oneCell']) (by unfold maxLen;omega) (by omega) (by have:=m.size;have:=g.out;simp;omega) ?_;intro vz wz l f q;obtain⟨gs,cs,rfl⟩:=dI l (by omega);have OZ:=ae l;have ZJ:=ae (bg (m.alloc (by have:=m.size;have:=g.out;omega) (J #[U t,U tx] 142)) f (by have:=m.size;have:=g.out;simp;omega) (λj e=>(A.lt j e).1));have f8:=(ZJ.cell (p:=(N X 0 Z)) ZS).trans c8;have f9:=(ZJ.cell (p:=(N X 1 Z)) ZS).trans c9;have y8:=(ZJ.frozen (p:=(N X 0 Z)) ZS).trans ZK.z0;obtain⟨r0,q0⟩:=(X4.aa ZJ (by have:=g.out;have:=ZO.out;omega)).r0;obtain⟨r1,ZL⟩:=(X4.aa ZJ (by have:=g.out;have:=ZO.out;omega)).r1;clear l f q));have ZQ:pd L ⟨t,tx⟩ t=bS L ⟨t,tx⟩ t L.length++[⟨t,tx⟩]:=by unfold pd;rw[eT (by rw[<-E.out];simp)]
    have OF:Hid (wz.ownsRow u 142 2 (Y (T (N gs 0 Z)) ((bS L ⟨t,tx⟩ t L.length).length+1) cs) LS.length (LS.flatMap bi)):=by show World.ownsRow _ _ _ _ _ _ _;rw[y.out,ZQ,eL,JA];simpa using OZ.out
    have mv:=g.out;have fd:=ZO.out;exact bp (v:=.tuple #[ZG #[Y (T (N gs 0 Z)) ((bS L ⟨t,tx⟩ t L.length).length+1) cs,Y ta R.length tc],Q I 0]) (by simp[results,OH,go_sem,r0,r1]) rfl ⟨_,_,R,rfl,aC (aO (aO (aO OF (R:=X) (j:=0) (by omega) _) (R:=B (z w)+1) (j:=0) (by omega) _) (R:=B (z w)+1) (j:=1) (by omega) _) (by omega),fC (((RX _ ((qr.trans (ZJ.mono (by omega))).setCell (p:=(N X 0 Z)) ly _)).set (X:=B (z w)+1) (j:=0) (by omega) _).set (X:=B (z w)+1) (j:=1) (by omega) _) (by omega),HM,(((B4.trans (ZJ.mono (by omega))).setCell (by simp;omega) _).setCell (by simp) _).setCell (by simp) _⟩
theorem sD (a0:Option Addr)(n0 c0:Nat)(f0:Nat->Source)(a1:Option Addr)(n1 c1:Nat)(f1:Nat->Target)(t:ByteArray)(w:M)(hn0:(n0:Int)<=1048576)(hn1:(n1:Int)<=1048576)(ex:SlSource w a0 n0 f0)(fd:SlTarget w a1 n1 f1)(ZI:∀i,i<n1->aY (f1 i))(hs:∀i,i<n1->∀j,j<(f1 i).m->((f1 i).D j).s.size<=maxLen):Calls Tryz.prog 35 #[ZG #[Y a0 n0 c0,Y a1 n1 c1],U t] w λe w'=>∃v0 v1 R,e=ZD (.tuple #[ZG #[v0,v1],Q I (jR n0 f0 n1 f1 t)])/\w'.ownsRow (B (z w)) 142 2 v0 (iu n0 f0 n1 f1 t).length ((iu n0 f0 n1 f1 t).flatMap bi)/\TRow w' (B (z w)) v1 R/\R.map (·.1)=jS n0 f0 n1 f1 t/\Below (B (z w)) w w':=by
 have V0:=ae ex;have V1:=ae fd;have HF:=ae ZI;have HS:=ae hs;clear ex fd ZI hs;obtain⟨C,hC⟩:∃C,C=be n0 f0 n1 f1:=⟨_,rfl⟩
 obtain⟨D,V⟩:∃D,D=jR n0 f0 n1 f1 t:=⟨_,rfl⟩
 obtain⟨LS,O⟩:∃LS,LS=iu n0 f0 n1 f1 t:=⟨_,rfl⟩
 obtain⟨LT,P⟩:∃LT,LT=jS n0 f0 n1 f1 t:=⟨_,rfl⟩
 rw[<-V,<-O,<-P];have HC:=ae hC;have HD:=ae (V.trans (by unfold jR;rw[<-hC]));have n:=ae (O.trans (by unfold iu;rw[<-V]));have o:=ae (P.trans (by unfold jS;rw[<-V]));clear hC V O P;obtain⟨W,ZM⟩:∃W:M,(w.alloc (J #[Y a0 n0 c0,Y a1 n1 c1] 27)).alloc (J #[Y Z 0 0,Y Z 0 0] 27)=W:=⟨_,rfl⟩
 obtain⟨L,-,-,-⟩:=nb2 ZM;have bt:=ae ZM;clear ZM;have X0:=ae (r8 w (Y a0 n0 c0) (Y a1 n1 c1) 27);go_enter func35,ntmps35;go_wp2_with fail;rw[bt.out] at X0 ⊢;clear bt;refine(dK a0 n0 c0 f0 a1 n1 c1 f1 _ hn0 hn1 (V0.aa L ly) (V1.aa L ly) HF HS).mono ?_;rintro e w1 ⟨rfl,b⟩;rw[<-HC.out];have ZO:=ae (X0.aa b X0.lt');have B1:=ae (L.trans (b.mono L.size));clear b L X0;by_cases hc:C=0;case neg =>
  have h:=HD.out;rw[nL hc] at h;have g:=n.out;rw[eT (by omega)] at g;have f:=o.out;rw[eT (by omega)] at f;subst h g f;have hc':(C == 0)=ZA:=by simpa using hc
  obtain⟨r0,q0⟩:=ZO.r0;obtain⟨r1,q1⟩:=ZO.r1;go_wp2;exact bp (v:=.tuple #[ZG #[Y Z 0 0,Y Z 0 0],Q I 1]) (by simp[results,QN,go_sem,r0,r1]) rfl ⟨_,_,[],rfl,ES _ _ _ _,cP _ _,rfl,(B1.setCell (by simp) _).setCell (by simp) _⟩
 subst hc;have hz:=jT HC.symm;have HZ:=ae hz;clear hz HC;have ZQ:=HD.out;rw[eT (by omega)] at ZQ;have ZN:=ae ZQ;clear ZQ HD;go_wp2_with fail;refine(cH t _).mono ?_;rintro e w2 ⟨rfl,b⟩;have ZS:=ae (ZO.aa b ZO.lt');have K:=ae (B1.trans (b.mono B1.size));clear b ZO B1;cases hn:aA t with
 |false =>have h:=ZN.out;rw[nL hn] at h;have g:=n.out;rw[eT (by omega)] at g;have f:=o.out;rw[eT (by omega)] at f;subst h g f;clear hn;obtain⟨r0,q0⟩:=ZS.r0;obtain⟨r1,q1⟩:=ZS.r1;go_wp2;exact bp (v:=.tuple #[ZG #[Y Z 0 0,Y Z 0 0],Q I 2]) (by simp[results,QN,go_sem,r0,r1]) rfl ⟨_,_,[],rfl,ES _ _ _ _,cP _ _,rfl,(K.setCell (by simp) _).setCell (by simp) _⟩
 |true =>
  have ZJ:=ZN.out;rw[eT (by simp[hn])] at ZJ;have S:=ae ZJ;clear ZJ ZN hn;have H:=ZS.a0;have ZP:=ZS.a1;go_wp2_with fail;refine(se a0 n0 c0 a1 n1 c1 f0 t _ hn0 (V0.aa K ly)).mono ?_;rintro e wS ⟨r,rfl,ZR,b⟩;have G:=ae (ZS.aa b ZS.lt');have ZK:=ae (K.trans (b.mono K.size));clear b ZS K H ZP;have H:=G.a0;have ZP:=G.a1;by_cases hr:r<0
  ·have aq:Hid (aF (nm0 f0) n0 t=ZA):=by show _=ZA;rw[<-ZR];simpa using hr
   clear ZR;go_wp2_with fail;refine(kN a0 n0 c0 a1 n1 c1 f1 t _ hn1 (V1.aa ZK ly)).mono ?_;rintro e w3 ⟨q,rfl,E,b⟩;have l:=ae (G.aa b G.lt');have m:=ae (ZK.trans (b.mono ZK.size));clear b G ZK H ZP;have H:=l.a0;have ZP:=l.a1;by_cases hq:q<0
   ·have hi:(aF (nm0 f0) n0 t || aF (nm1 f1) n1 t)=ZA:=by rw[aq.out,<-E];simpa using hq
    clear E;have h:=S.out;rw[nL hi] at h;have g:=n.out;rw[eT (by omega)] at g;have f:=o.out;rw[eT (by omega)] at f;subst h g f;obtain⟨r0,q0⟩:=l.r0;obtain⟨r1,q1⟩:=l.r1;go_wp2;exact bp (v:=.tuple #[ZG #[Y Z 0 0,Y Z 0 0],Q I 4]) (by simp[results,QN,go_sem,r0,r1]) rfl ⟨_,_,[],rfl,ES _ _ _ _,cP _ _,rfl,(m.setCell (by simp) _).setCell (by simp) _⟩
   ·have hi:(aF (nm0 f0) n0 t || aF (nm1 f1) n1 t)=ZF:=by rw[aq.out,<-E];simpa using hq
    clear E;have h:=S.out;rw[eT (by simp[hi])] at h;have g:=n.out;rw[nL h] at g;have f:=o.out;rw[nL h] at f;subst h g f;go_wp2_with fail;refine(eC a0 n0 c0 f0 a1 n1 c1 f1 t _ hn0 hn1 (V0.aa m ly) (V1.aa m ly) HF).mono ?_;rintro e w4 ⟨v0,v1,R,rfl,x,hR,hM,b⟩;have ZL:=ae (l.aa b l.lt');have ld:=l.lt;have B4:=ae (m.trans (b.mono m.size));obtain⟨p,y,rfl⟩:=aL x;obtain⟨A,u,rfl⟩:=aL hR.x;have O4:=ae (aC (aO (aO (R:=B (z w)+1) (j:=0) x (by omega) (Y p (keepS f0 t n0).length y)) (R:=B (z w)+1) (j:=1) (by omega) (Y A R.length u)) (base':=B (z w)) (by omega));have T4:=ae (fC ((hR.set (X:=B (z w)+1) (j:=0) (by omega) (Y p (keepS f0 t n0).length y)).set (X:=B (z w)+1) (j:=1) (by omega) (Y A R.length u)) (base':=B (z w)) (by omega));have HM:=ae hM;clear x hR b hM H ZP;obtain⟨r0,q0⟩:=ZL.r0;obtain⟨r1,q1⟩:=ZL.r1;go_wp2;exact bp (v:=.tuple #[ZG #[Y p (keepS f0 t n0).length y,Y A R.length u],Q I 0]) (by simp[results,QN,go_sem,r0,r1]) rfl ⟨_,_,R,rfl,O4,T4,HM,(B4.setCell (by simp) _).setCell (by simp) _⟩
  ·have hi:(aF (nm0 f0) n0 t || aF (nm1 f1) n1 t)=ZF:=by rw[<-ZR];have:decide (0<=r)=ZF:=LD (by omega);rw[this];rfl
   clear ZR;have l:=G;have m:=ZK;have h:=S.out;rw[eT (by simp[hi])] at h;have g:=n.out;rw[nL h] at g;have f:=o.out;rw[nL h] at f;subst h g f;go_wp2_with fail;refine(eC a0 n0 c0 f0 a1 n1 c1 f1 t _ hn0 hn1 (V0.aa m ly) (V1.aa m ly) HF).mono ?_;rintro e w4 ⟨v0,v1,R,rfl,x,hR,hM,b⟩;have ZL:=ae (l.aa b l.lt');have ld:=l.lt;have B4:=ae (m.trans (b.mono m.size));obtain⟨p,y,rfl⟩:=aL x;obtain⟨A,u,rfl⟩:=aL hR.x;have O4:=ae (aC (aO (aO (R:=B (z w)+1) (j:=0) x (by omega) (Y p (keepS f0 t n0).length y)) (R:=B (z w)+1) (j:=1) (by omega) (Y A R.length u)) (base':=B (z w)) (by omega));have T4:=ae (fC ((hR.set (X:=B (z w)+1) (j:=0) (by omega) (Y p (keepS f0 t n0).length y)).set (X:=B (z w)+1) (j:=1) (by omega) (Y A R.length u)) (base':=B (z w)) (by omega));have HM:=ae hM;clear x hR b hM H ZP;obtain⟨r0,q0⟩:=ZL.r0;obtain⟨r1,q1⟩:=ZL.r1;go_wp2;exact bp (v:=.tuple #[ZG #[Y p (keepS f0 t n0).length y,Y A R.length u],Q I 0]) (by simp[results,QN,go_sem,r0,r1]) rfl ⟨_,_,R,rfl,O4,T4,HM,(B4.setCell (by simp) _).setCell (by simp) _⟩
