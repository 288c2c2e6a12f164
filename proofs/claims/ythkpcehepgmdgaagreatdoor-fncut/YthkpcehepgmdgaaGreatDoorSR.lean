import Derived.Test.YthkpcehepgmdgaaGreatDoorSP
import Derived.Test.YthkpcehepgmdgaaGreatDoorTA
set_option maxRecDepth 100000
set_option maxHeartbeats 8000000
set_option linter.unusedSimpArgs false
open Go renaming Addr.mk->Q,Value.slice->Z,Value.string->U,Value.int->J,Value.agg->ZH,Obj.cells->N,IntKind.i64->I,World->G,Ending.returned->ZG,World.heap->h,World.alloc->ZU,World.cell?->ZV
open Option renaming none->Y,some->T
open Bool renaming false->ZB,true->ZF
open Array renaming size->A
open List renaming length->ZT
namespace Go.Proofs.YthkpcehepgmdgaaGreatDoor.Vp
open Tryz RowKit Ca
theorem fR (a0:Option Addr)(n0 c0:Nat)(f0:Nat->Source)(a1:Option Addr)(n1 c1:Nat)(f1:Nat->Target)(t:ByteArray)(w:G)(hn0:(n0:Int)<=1048576)(hn1:(n1:Int)<=1048576)(ZO:SlSource w a0 n0 f0)(O:SlTarget w a1 n1 f1)(ZQ:∀i,i<n1->aU (f1 i)):Calls Tryz.prog 63 #[ZH #[Z a0 n0 c0,Z a1 n1 c1],U t] w λe w'=>∃s r R,e=ZG (ZH #[s,r])/\w'.ownsRow (A (h w)+3) 87 2 s (keepS f0 t n0).length ((keepS f0 t n0).flatMap bw)/\TRow w' (A (h w)+3) r R/\R.map (·.1)=keepT f1 t n1/\Below (A (h w)) w w':=by
 have V0:=ae ZO;have V1:=ae O;have HF:=ae ZQ;clear ZO O ZQ;obtain⟨ro,hi,ur,sm,n8⟩:=KQ iS;obtain⟨qr,hj,la,aq,bt⟩:=KQ ez;have A0:=ae ((((q9 w).alloc ly (N #[Z a0 n0 c0,Z a1 n1 c1] 33)).alloc (by simp) (N #[Z Y 0 0,Z Y 0 0] 33)).alloc (by simp;omega) (N #[Z Y 0 0,Z Y 0 0] 33));have X0:=ae (zJ w (Z a0 n0 c0) (Z a1 n1 c1) 33);go_enter func63,ntmps63;go_wp2;generalize ZU (ZU (ZU w (N #[Z a0 n0 c0,Z a1 n1 c1] 33)) (N #[Z Y 0 0,Z Y 0 0] 33)) (N #[Z Y 0 0,Z Y 0 0] 33)=W at A0 X0 ⊢;go_loopw [6] (λi wr=>∃(k:Nat) (s:Value),k<=n0/\i=J I k/\Hid (Boxes wr (A (h w)) (Z a0 n0 c0) (Z a1 n1 c1) s (Z Y 0 0))/\Hid (wr.ownsRow (A (h w)+3) 87 2 s (keepS f0 t k).length ((keepS f0 t k).flatMap bw))/\Hid (Below (A (h w)) w wr)) (λi _=>n0 - (intOf i).toNat);case atStart=>exact⟨0,_,by omega,rfl,X0,CL _ _ _ _,A0⟩
 case round =>
  obtain⟨k,s,hk,rfl,f,D,q⟩:=hrel;have ZN:=f.lt;by_cases u:k<n0
  ·obtain⟨b,off,rfl,z⟩:=V0.resolve_left (by omega);obtain⟨ZM,X⟩:=(z.2 k u).aa q z.1;clear z;have hll:=iB f0 t k;have ZL:=f.a0;cases hq:((f0 k).e.toList == t.toList) with
   |true =>have C:=ae hq;go_wp2;exact⟨⟨k+1,s,by omega,by go_num,f,by show World.ownsRow _ _ _ _ _ _ _;rw[xR C.out];exact D,q⟩,by simp[intOf];omega⟩
   |false =>
    have C:=ae hq;obtain⟨x0,y0⟩:=f.o0;have y:=ae ((cM (A (h w)+3) wr).drew.alloc (by simp;omega) (N #[U (f0 k).e,U (f0 k).B] 87));go_wp2_with fail
    go_region_law (first
     |(refine dr rfl (.tmp 25) (.tmp 31) 30 rfl (A (h w)+3) 87 ro (ZH #[U ⟨#[]⟩,U ⟨#[]⟩]) 2 32 MY hi ur sm n8 rfl (by decide) s (keepS f0 t k).length ((keepS f0 t k).flatMap bw) (by simp[Act.eval]) (D.drew.alloc _) (Q (A (h wr)) 0 Y) 1 1 (bw (f0 k)) (by simp[Act.eval]) rfl (cU wr.drew _ _ _) (by simp[bw,Value.oneCell']) (by unfold maxLen;omega) (by omega) (by simp<;>omega) ?_;intro v' w2 n l ZW;obtain⟨gs,cs,rfl⟩:=ef n (by omega);have O2:=ae n;have B2:=ae (bg y l (by simp<;>omega) (λj e=>(D.lt j e).1));obtain⟨x2,y2⟩:=(f.aa B2 ly).o0;clear n l ZW))
    all_goals
     clear x0 y0 ZL;go_wp2;exact⟨⟨k+1,_,by omega,by go_num,(f.aa B2 ly).set0 _,by show World.ownsRow _ _ _ _ _ _ _;rw[xS C.out,gB,IH];simpa using aC O2.out (by omega) _,(q.trans (B2.mono (by omega))).setCell (by simp;omega) _⟩,by simp[intOf];omega⟩
  ·have e:n0=k:=by omega
   subst e;have ZL:=f.a0;have ZP:=f.a1;go_wp2;clear ZL ZP u hk;generalize wr=W1 at f D q ZN ⊢;go_loopw [7] (λi wr=>∃(k:Nat) (r:Value) (R:List TR),k<=n1/\i=J I k/\Hid (Boxes wr (A (h w)) (Z a0 n0 c0) (Z a1 n1 c1) s r)/\Hid (wr.ownsRow (A (h w)+3) 87 2 s (keepS f0 t n0).length ((keepS f0 t n0).flatMap bw))/\Hid (TRow wr (A (h w)+3) r R)/\Hid (R.map (·.1)=keepT f1 t k)/\Hid (Below (A (h w)) w wr)) (λi _=>n1 - (intOf i).toNat);case atStart=>exact⟨0,_,[],by omega,rfl,f,D,df _ _,rfl,q⟩
   case round =>
    clear f D q;obtain⟨k,r,R,hk,rfl,f,ZS,B,L,q⟩:=hrel;have hlt4:=f.lt;by_cases u:k<n1
    ·obtain⟨b,off,rfl,z⟩:=V1.resolve_left (by omega);obtain⟨ZM,ZJ,S,X,hx⟩:=(z.2 k u).aa q ly z.1;have HX:=ae hx;have n7:=z.1;clear z hx;have hRl:ZT R<=1048576:=by have h1:=CD List.length L.out;have h2:=jG f1 t k;simp at h1;omega
     have n9:((f1 k).l:Int)<=1048576:=by have:=HF.out k u;unfold aU at this;omega
     have ZP:=f.a1;have ld:¬ b=A (h w)+1+1:=by omega
     have ZK:¬ (A (h w))+1+1=b:=by omega
     have hbw:b<A (h wr):=lj n7 q.size;cases hq:((f1 k).e.toList == t.toList) with
     |true =>have C:=ae hq;go_wp2;exact⟨⟨k+1,r,R,by omega,by go_num,f,ZS,B,by show _=keepT f1 t (k+1);rw[xT C.out];exact L,q⟩,by simp[intOf];omega⟩
     |false =>
      have C:=ae hq;have ST:Hid (∀V,Below (A (h w)+3) wr V->(ZV V (Q (A (h w)+1+1) 1 Y)=T r/\(A (h w))+1+1<A (h V))/\(ZV V (Q (A (h w)) 1 Y)=T (Z (T (Q b off Y)) n1 c1)/\(A (h w))<A (h V))/\ZV V (Q b (off+k*2) Y)=T (U (f1 k).e)/\ZV V (Q b (off+k*2+1) Y)=T (Z ZJ (f1 k).l S)/\b<A (h V)):=λV M=>by have hz:=M.size;have ZX:=f.aa M ly;exact⟨⟨ZX.o1.1,by have:=ZX.lt;omega⟩,⟨ZX.a1,by have:=ZX.lt;omega⟩,(M.cell (p:=(Q b (off+k*2) Y)) (by show b<A (h w)+3;omega)).trans ZM,(M.cell (p:=(Q b (off+k*2+1) Y)) (by show b<A (h w)+3;omega)).trans X,by omega⟩
      have y:=ae (q9 wr).drew;have hki:(k:Int)<(n1:Int):=by omega
      go_wp2_with fail;refine aD (λV=>(ZV V (Q (A (h w)+1+1) 1 Y)=T r/\(A (h w))+1+1<A (h V))/\(ZV V (Q (A (h w)) 1 Y)=T (Z (T (Q b off Y)) n1 c1)/\(A (h w))<A (h V))/\ZV V (Q b (off+k*2) Y)=T (U (f1 k).e)/\ZV V (Q b (off+k*2+1) Y)=T (Z ZJ (f1 k).l S)/\b<A (h V)) 19 (by kernel_rfl) ?_;have o:=ae (ST _ (y.mono (by omega)));clear ZP ZM X ld ZK;generalize wr.drew=v2 at y o ⊢;iterate 14
       refine aM 0 (v:=?_) rfl rfl (by kernel_rfl) (λ_ _ _ ZX=>ZX) rfl ?_ o ?_;rotate_left
       ·(intro wz th;obtain⟨⟨s0,s1⟩,⟨s2,s3⟩,s4,s5,s6⟩:=th;go_simp)
        (try with_reducible rfl)
       (try simp only[Act.put,nzL])
      refine ah (i:=14) rfl (by kernel_rfl) λK m=>?_;go_simp;go_at_call 50;refine(iN ZJ (f1 k).l S (f1 k).u _ n9 (HX.aa y ly)).mono ?_;rintro e wC ⟨g,c,rfl,hO,hB⟩;have DC:=ae (y.trans (hB.mono y.size));have ex:=DC.size;have ph:=(cu hO).1;have hz1:=y.size;have OC:=ae (aA hO (base':=A (h w)+3) (by omega));have P:A (h wr)<=g:=by omega
      clear hB hO ph o;have o:=ae (ST _ (DC.mono (by omega)));refine m _ _ (λ_=>o) ?_;clear m K
      (try simp only[Act.put,nzL])
      refine ah (i:=15) rfl (by kernel_rfl) λK m=>?_;go_simp;refine m _ _ (λ_=>o) ?_;clear m K o
      (try simp only[Act.put,nzL])
      have H:=ae (DC.alloc ex (N #[U (f1 k).e,Z (T (Q g 0 Y)) (f1 k).l c] 94));have o:=ae (ST _ (H.mono (by omega)));refine ah (i:=16) rfl (by kernel_rfl) λK m=>?_;go_simp;refine m _ _ (λ_=>o) ?_;clear m K o
      (try simp only[Act.put,nzL])
      refine ah (i:=17) rfl (by kernel_rfl) λK m=>?_;refine dr rfl (.tmp 50) (.tmp 65) 31 rfl (A (h w)+3) 94 qr (ZH #[U ⟨#[]⟩,Z Y 0 0]) 2 40 LC hj la aq bt rfl (by decide) r (ZT R) (R.flatMap aY) (by simp[Act.eval]) ((B.aa DC ly).y.alloc _) (Q (A (h wC)) 0 Y) 1 1 (aY (f1 k,g,c)) (by simp[Act.eval]) rfl (cU wC _ _ _) (by simp[aY,Value.oneCell']) (by unfold maxLen;omega) (by omega) (by simp;omega) ?_;intro v' w2 n l ZW;obtain⟨gs,cs,rfl⟩:=ef n (by omega);have T2:=ae (B.more (x:=f1 k) (g:=g) (c:=c) H P (by omega) (OC.alloc _) n l);have E2:=ae (bg (H.mono (show (A (h w))+3<=A (h wr) by omega)) l (by simp;omega) (λj e=>(B.y.lt j e).1));have fd:=ae ((own_below ZS H ly).kept l (zI (own_below ZS H ly) ((B.aa DC ly).y.alloc _) (by decide)));have E:=ae (f.aa E2 ly);obtain⟨x2,y2⟩:=E.o1;have hz2:=E.lt;have o:=ae (ST _ E2);clear n l ZW;refine m _ _ (λ_=>o) ?_;clear m K
      (try simp only[Act.put,nzL])
      refine ah (i:=18) rfl (by kernel_rfl) λK m=>?_;go_simp;refine m _ _ (λ_=>o) ?_;clear m K
      (try simp only[Act.put,nzL])
      have hz3:A (h w)+1+1<A (h w2):=by omega
      refine ah (i:=19) rfl (by kernel_rfl) λK m=>?_;go_simp;refine m _ _ (λZX=>absurd rfl ZX) ?_;clear m K o
      (try simp only[Act.put,nzL])
      refine bk (by kernel_rfl) ?_ _;clear x2 y2;go_wp2;exact⟨⟨k+1,_,R++[(f1 k,g,c)],by omega,by go_num,E.set1 _,aC fd (by omega) _,T2.set (by omega) _,by show _=keepT f1 t (k+1);rw[xU C.out,AI,L.out];rfl,(q.trans (E2.mono (by omega))).setCell (by simp;omega) _⟩,by simp[intOf];omega⟩
    ·have e:n1=k:=by omega
     subst e;have ZP:=f.a1;obtain⟨sa,sc,rfl⟩:=aF ZS;obtain⟨ta,tc,rfl⟩:=aF B.y;obtain⟨r0,q0⟩:=f.r0;obtain⟨r1,q1⟩:=f.r1;obtain⟨m0,_⟩:=f.o0;obtain⟨m1,_⟩:=f.o1;go_wp2;exact bp (v:=ZH #[Z sa _ sc,Z ta _ tc]) (by simp[results,results63,go_sem,r0,r1]) rfl ⟨_,_,R,rfl,aC (aC ZS (by omega) _) (by omega) _,(B.set (by omega) _).set (by omega) _,L,(q.setCell (by simp) _).setCell (by simp) _⟩
theorem tU (a0:Option Addr)(n0 c0:Nat)(f0:Nat->Source)(a1:Option Addr)(n1 c1:Nat)(f1:Nat->Target)(t tx:ByteArray)(w:G)(hn0:(n0:Int)<=1048576)(hn1:(n1:Int)<=1048576)(DS:SlSource w a0 n0 f0)(DQ:SlTarget w a1 n1 f1)(n9:∀i,i<n1->aU (f1 i))(hs:∀i,i<n1->∀j,j<(f1 i).l->((f1 i).u j).s.size<=maxLen):Calls Tryz.prog 61 #[ZH #[Z a0 n0 c0,Z a1 n1 c1],U t,U tx] w λe ZM=>∃v0 v1 R,e=ZG (.tuple #[ZH #[v0,v1],J I (oB n0 f0 n1 f1 t tx)])/\ZM.ownsRow (A (h w)) 87 2 v0 (lu n0 f0 n1 f1 t tx).length ((lu n0 f0 n1 f1 t tx).flatMap bw)/\TRow ZM (A (h w)) v1 R/\R.map (·.1)=oC n0 f0 n1 f1 t tx/\Below (A (h w)) w ZM:=by
 have V0:=ae DS;have V1:=ae DQ;have HF:=ae n9;have HS:=ae hs;clear DS DQ n9 hs;obtain⟨ZS,ZP,ZO,ZQ,O⟩:=KQ iS;obtain⟨C,hC⟩:∃C,C=bm n0 f0 n1 f1:=⟨_,rfl⟩
 obtain⟨D,hD⟩:∃D,D=oB n0 f0 n1 f1 t tx:=⟨_,rfl⟩
 obtain⟨LS,qr⟩:∃LS,LS=lu n0 f0 n1 f1 t tx:=⟨_,rfl⟩
 obtain⟨LT,ur⟩:∃LT,LT=oC n0 f0 n1 f1 t tx:=⟨_,rfl⟩
 rw[<-hD,<-qr,<-ur];have HC:=ae hC;have HD:=ae (hD.trans (by unfold oB;rw[<-hC]));have y:=ae (qr.trans (by unfold lu;rw[<-hD]));have bt:=ae (ur.trans (by unfold oC;rw[<-hD]));clear hC hD qr ur;obtain⟨W,sm⟩:∃W:G,ZU (ZU w (N #[Z a0 n0 c0,Z a1 n1 c1] 33)) (N #[Z Y 0 0,Z Y 0 0] 33)=W:=⟨_,rfl⟩
 obtain⟨A0,-,-,-⟩:=nb2 sm;have DE:=ae sm;clear sm;have X0:=ae (tJ w (Z a0 n0 c0) (Z a1 n1 c1) 33);go_enter func61,ntmps61;go_wp2_with fail;rw[DE.out] at X0 ⊢;clear DE;refine(eu a0 n0 c0 f0 a1 n1 c1 f1 _ hn0 hn1 (V0.aa A0 ly) (V1.aa A0 ly) HF HS).mono ?_;rintro e w1 ⟨rfl,x⟩;rw[<-HC.out];have X1:=ae (X0.aa x X0.lt');have B1:=ae (A0.trans (x.mono A0.size));clear x A0 X0;by_cases hc:C=0;case neg =>
  have hd:=HD.out;rw[hU hc] at hd;have r:=y.out;rw[eT (by omega)] at r;have o:=bt.out;rw[eT (by omega)] at o;subst hd r o;have hc':(C == 0)=ZB:=by simpa using hc
  obtain⟨r0,q0⟩:=X1.r0;obtain⟨r1,V⟩:=X1.r1;go_wp2;exact bp (v:=.tuple #[ZH #[Z Y 0 0,Z Y 0 0],J I 1]) (by simp[results,QF,go_sem,r0,r1]) rfl ⟨_,_,[],rfl,CL _ _ _ _,df _ _,rfl,(B1.setCell (by simp) _).setCell (by simp) _⟩
 subst hc;have hz:=lp HC.symm;have HZ:=ae hz;clear hz HC;have n8:=HD.out;rw[eT (by omega)] at n8;have ro:=ae n8;clear n8 HD;go_wp2_with fail;refine(cV t _).mono ?_;rintro e w2 ⟨rfl,x⟩;have H:=ae (X1.aa x X1.lt');have ZL:=ae (B1.trans (x.mono B1.size));clear x X1 B1;by_cases n:av t=ZB∨2000<(tx.size:Int)
 ·have hd:=ro.out;rw[hU n] at hd;have r:=y.out;rw[eT (by omega)] at r;have o:=bt.out;rw[eT (by omega)] at o;subst hd r o;obtain⟨r0,q0⟩:=H.r0;obtain⟨r1,V⟩:=H.r1;cases hn:av t with
  |false =>clear n;go_wp2;exact bp (v:=.tuple #[ZH #[Z Y 0 0,Z Y 0 0],J I 2]) (by simp[results,QF,go_sem,r0,r1]) rfl ⟨_,_,[],rfl,CL _ _ _ _,df _ _,rfl,(ZL.setCell (by simp) _).setCell (by simp) _⟩
  |true =>have Fm:(2000:Int)<tx.size:=n.resolve_left (by simp[hn]);clear n;go_wp2;exact bp (v:=.tuple #[ZH #[Z Y 0 0,Z Y 0 0],J I 2]) (by simp[results,QF,go_sem,r0,r1]) rfl ⟨_,_,[],rfl,CL _ _ _ _,df _ _,rfl,(ZL.setCell (by simp) _).setCell (by simp) _⟩
 have n7:=ro.out;rw[eT n] at n7;have Bk:=ae n7;have hn:av t=ZF:=by
  cases ZX:av t with
  |true=>rfl
  |false=>exact absurd (.inl ZX) n
 have Fm:¬ (2000:Int)<tx.size:=λZX=>n (.inr ZX);clear n7 ro n;have k0:=H.a0;have k1:=H.a1;rw[hn];go_wp2_with fail;refine(fR a0 n0 c0 f0 a1 n1 c1 f1 t _ hn0 hn1 (V0.aa ZL ly) (V1.aa ZL ly) HF).mono ?_;rintro e w3 ⟨v0,v1,R,rfl,hO,hR,hM,x⟩;have hlt2:=H.lt;have X3:=ae (H.aa x H.lt');have B3:=ae (ZL.trans (x.mono ZL.size));obtain⟨sa,sc,rfl⟩:=aF hO;obtain⟨ta,tc,rfl⟩:=aF hR.y;have eR:ZT R=(keepT f1 t n1).length:=by rw[<-hM];simp
 have GS:=iB f0 t n0;have Fn:=jG f1 t n1;obtain⟨L,hL⟩:∃L,L=keepS f0 t n0:=⟨_,rfl⟩
 obtain⟨K,hK⟩:∃K,K=keepT f1 t n1:=⟨_,rfl⟩
 rw[<-hL] at hO GS ⊢;rw[<-hK] at hM Fn eR;have E:=Bk.out;rw[<-hL,<-hK] at E;have r:=y.out;rw[<-hL] at r;have o:=bt.out;rw[<-hK] at o;have ER:=ae eR;have hlr:ZT R<=n1:=by omega
 clear Bk y bt hL hK x k0 k1 hn H ZL eR;have O3:=ae (aA hO (base':=A (h w)) (by omega));have RX:Hid (∀ZM,Below (A (h w3)) w3 ZM->TRow ZM (A (h w2)+3) (Z ta (ZT R) tc) R):=λZM hb=>hR.aa hb ly;have HM:=ae hM;have hll:(ZT L:Int)<=1048576:=by omega
 clear hO hR hM;obtain⟨w4,ZJ⟩:∃W:G,ZU w3 (N #[Z sa (ZT L) sc,Z ta (ZT R) tc] 33)=W:=⟨_,rfl⟩
 obtain⟨DB,-,fd⟩:=nb1 ZJ;have At:=ae ZJ;clear ZJ;have S:=ae (tO w3 (Z sa (ZT L) sc) (Z ta (ZT R) tc) 33);have X4:=ae (X3.aa DB X3.lt');have B4:=ae (B3.trans (DB.mono B3.size));have O4:=ae (own_below O3 DB ly);have ph:=ae DB.out;have Fd:A (h w)+1<A (h w3):=X3.lt;have c8:=S.c0;have c9:=S.c1;clear O3 DB;by_cases hc3:(200:Int)<=ZT L+ZT R;{rw[hU (by have:=ER.out;omega)] at E;rw[eT (by omega)] at r o;subst E r o;obtain⟨r0,q0⟩:=X3.r0;obtain⟨r1,V⟩:=X3.r1;clear c8 c9;go_wp2;exact bp (v:=.tuple #[ZH #[Z Y 0 0,Z Y 0 0],J I 3]) (by simp[results,QF,go_sem,r0,r1,Fd]) rfl ⟨_,_,[],rfl,CL _ _ _ _,df _ _,rfl,((B3.setCell (by simp) _).setCell (by simp) _).alloc (by have:=B3.size;simp;omega) _⟩};clear X3 B3;rw[eT (by have:=ER.out;omega)] at E;rw[hU E] at r o;subst E o;have y:=ae r;clear r;go_wp2;rw[At.out] at S c8 c9 ⊢;clear At;generalize (A (h w3))=X at S c8 c9 Fd fd RX ph ⊢;obtain⟨u,th⟩:∃u,u=A (h w4):=⟨_,rfl⟩
 have E0:Hid (Below u w4 (ZU w4 (N #[] 87))):=by rw[th];exact br.alloc ly _
 have W0:Hid ((ZU w4 (N #[] 87)).ownsRow u 87 2 (Z (T (Q (X+1) 0 Y)) 0 0) 0 []):=by rw[<-fd];exact LK w4 #[] 0 (by omega) (by unfold maxLen;omega) rfl
 have z:X<u:=by have:=S.lt;omega
 have g:=ae th;have M:=ae fd;clear th fd;go_loopw [9,10,11] (λv d i wr=>∃(k:Nat) (db:Bool),k<=ZT L/\i=J I k/\d=.bool db/\Hid (db=eQ L t k)/\Hid (wr.ownsRow u 87 2 v (ce L ⟨t,tx⟩ t k).length ((ce L ⟨t,tx⟩ t k).flatMap bw))/\Hid (Below u w4 wr)) (λ_ _ i _=>ZT L - (intOf i).toNat);case atStart=>exact⟨0,ZB,by omega,rfl,rfl,rfl,W0,E0⟩
 case round =>
  obtain⟨k,db,hk,rfl,rfl,B,ZW,m⟩:=hrel;have e8:=(m.cell (p:=(Q X 0 Y)) z).trans c8;have Fk:=rm L ⟨t,tx⟩ t k;obtain⟨hlen1,ld⟩:=Fk;have HL2:=ae ld;clear ld;by_cases o:k<ZT L
  ·obtain⟨b,off,rfl,hr⟩:=(ko O4).resolve_left (by omega);obtain⟨p0,p1⟩:=hr.2 k o;have aq:b<u:=by have:=hr.1;have:=g.out;omega
   have d0:=(m.cell (p:=(Q b (off+k*2) Y)) aq).trans p0;have d1:=(m.cell (p:=(Q b (off+k*2+1) Y)) aq).trans p1;clear hr;cases db with
   |true =>
    have HI:Hid (ce L ⟨t,tx⟩ t (k+1)=ce L ⟨t,tx⟩ t k++[ct L k]):=by show(if _ then _ else _)=_;rw[eT (by rw[<-B.out];simp)]
    have HN:Hid (ZF=eQ L t (k+1)):=by show ZF=(eQ L t k || _);rw[<-B.out];rfl
    go_wp2_with (at_builtin;(refine DD _ rfl (.tmp 63) (.tmp 69) 30 rfl u 87 ZS (ZH #[U ⟨#[]⟩,U ⟨#[]⟩]) 2 32 MY ZP ZO ZQ O rfl (by decide) _ (ce L ⟨t,tx⟩ t k).length ((ce L ⟨t,tx⟩ t k).flatMap bw) (by simp[Act.eval]) (ZW.alloc _) (Q (A (h wr)) 0 Y) 1 1 (bw (ct L k)) (by simp[Act.eval]) rfl (cU wr _ _ _) (by simp[bw,Value.oneCell']) (by unfold maxLen;omega) (by omega) (by have:=m.size;have:=g.out;simp;omega) ?_;intro vy wy l f q;have OY:=ae l;have BY:=ae (bg (m.alloc (by have:=m.size;have:=g.out;omega) (N #[U (ct L k).e,U (ct L k).B] 87)) f (by have:=m.size;have:=g.out;simp;omega) (λj e=>(ZW.lt j e).1));clear l f q));exact⟨⟨k+1,ZF,by omega,by go_num,rfl,HN,by show World.ownsRow _ _ _ _ _ _ _;rw[HI.out,gB,IH];simpa using OY.out,BY⟩,by simp[intOf];omega⟩
   |false =>
    cases hq:aX t (ct L k).e with
    |true =>
     have HI:Hid (ce L ⟨t,tx⟩ t (k+1)=ce L ⟨t,tx⟩ t k++[⟨t,tx⟩]++[ct L k]):=by show(if _ then _ else _)=_;rw[hU ⟨B.symm,hq⟩]
     have HN:Hid (ZF=eQ L t (k+1)):=by show ZF=(eQ L t k || _);rw[hq];simp
     obtain⟨V,q2⟩:=rj hq;clear hq;go_wp2_with (at_builtin;first|(refine DD _ rfl (.tmp 57) (.tmp 61) 30 rfl u 87 ZS (ZH #[U ⟨#[]⟩,U ⟨#[]⟩]) 2 32 MY ZP ZO ZQ O rfl (by decide) _ (ce L ⟨t,tx⟩ t k).length ((ce L ⟨t,tx⟩ t k).flatMap bw) (by simp[Act.eval]) (ZW.alloc _) (Q (A (h wr)) 0 Y) 1 1 (bw ⟨t,tx⟩) (by simp[Act.eval]) rfl (cU wr _ _ _) (by simp[bw,Value.oneCell']) (by unfold maxLen;omega) (by omega) (by have:=m.size;have:=g.out;simp;omega) ?_;intro vx wx l f q;have OX:=ae l;have ZK:=ae (bg (m.alloc (by have:=m.size;have:=g.out;omega) (N #[U t,U tx] 87)) f (by have:=m.size;have:=g.out;simp;omega) (λj e=>(ZW.lt j e).1));have f8:=(ZK.cell (p:=(Q X 0 Y)) z).trans c8;have g0:=(ZK.cell (p:=(Q b (off+k*2) Y)) aq).trans p0;have g1:=(ZK.cell (p:=(Q b (off+k*2+1) Y)) aq).trans p1;clear l f q)|(refine DD _ rfl (.tmp 63) (.tmp 69) 30 rfl u 87 ZS (ZH #[U ⟨#[]⟩,U ⟨#[]⟩]) 2 32 MY ZP ZO ZQ O rfl (by decide) _ ((ce L ⟨t,tx⟩ t k).length+1) ((ce L ⟨t,tx⟩ t k).flatMap bw++bw ⟨t,tx⟩) (by simp[Act.eval]) (OX.alloc _) (Q (A (h wx)) 0 Y) 1 1 (bw (ct L k)) (by simp[Act.eval]) rfl (cU wx _ _ _) (by simp[bw,Value.oneCell']) (by unfold maxLen;omega) (by omega) (by have:=ZK.size;have:=g.out;simp;omega) ?_;intro vy wy l f q;have OY:=ae l;have BY:=ae (bg (ZK.alloc (by have:=ZK.size;have:=g.out;omega) (N #[U (ct L k).e,U (ct L k).B] 87)) f (by have:=ZK.size;have:=g.out;simp;omega) (λj e=>(OX.lt j e).1));clear l f q));exact⟨⟨k+1,ZF,by omega,by go_num,rfl,HN,by show World.ownsRow _ _ _ _ _ _ _;rw[HI.out,gB,gB,IH,IH];simpa using OY.out,BY⟩,by simp[intOf];omega⟩
    |false =>
     have HI:Hid (ce L ⟨t,tx⟩ t (k+1)=ce L ⟨t,tx⟩ t k++[ct L k]):=by show(if _ then _ else _)=_;rw[eT (by rw[hq];simp)]
     have HN:Hid (ZB=eQ L t (k+1)):=by show ZB=(eQ L t k || _);rw[<-B.out,hq];rfl
     have HQ:=ae (tN hq);clear hq;rcases HQ.out with V|⟨V,q2⟩
     all_goals
      go_wp2_with (at_builtin;(refine DD _ rfl (.tmp 63) (.tmp 69) 30 rfl u 87 ZS (ZH #[U ⟨#[]⟩,U ⟨#[]⟩]) 2 32 MY ZP ZO ZQ O rfl (by decide) _ (ce L ⟨t,tx⟩ t k).length ((ce L ⟨t,tx⟩ t k).flatMap bw) (by simp[Act.eval]) (ZW.alloc _) (Q (A (h wr)) 0 Y) 1 1 (bw (ct L k)) (by simp[Act.eval]) rfl (cU wr _ _ _) (by simp[bw,Value.oneCell']) (by unfold maxLen;omega) (by omega) (by have:=m.size;have:=g.out;simp;omega) ?_;intro vy wy l f q;have OY:=ae l;have BY:=ae (bg (m.alloc (by have:=m.size;have:=g.out;omega) (N #[U (ct L k).e,U (ct L k).B] 87)) f (by have:=m.size;have:=g.out;simp;omega) (λj e=>(ZW.lt j e).1));clear l f q));exact⟨⟨k+1,ZB,by omega,by go_num,rfl,HN,by show World.ownsRow _ _ _ _ _ _ _;rw[HI.out,gB,IH];simpa using OY.out,BY⟩,by simp[intOf];omega⟩
  ·have e:ZT L=k:=by omega
   subst e;cases db with
   |true =>
    have P:qq L ⟨t,tx⟩ t=ce L ⟨t,tx⟩ t (ZT L):=by unfold qq;rw[hU B.symm]
    obtain⟨va,vc,rfl⟩:=aF ZW;have OF:Hid (wr.ownsRow u 87 2 (Z va (ce L ⟨t,tx⟩ t (ZT L)).length vc) (ZT LS) (LS.flatMap bw)):=by show World.ownsRow _ _ _ _ _ _ _;rw[y.out,P];exact ZW
    have la:=g.out;have ex:=M.out;have H1:=ae la;have H2:=ae ex;have H3:=ae P;have e9:=(m.cell (p:=(Q X 1 Y)) z).trans c9;have y8:=(m.frozen (p:=(Q X 0 Y)) z).trans S.z0;obtain⟨r0,q0⟩:=(X4.aa m (by omega)).r0;obtain⟨r1,V⟩:=(X4.aa m (by omega)).r1;clear la ex P;go_wp2;have la:=g.out;have ex:=M.out;exact bp (v:=.tuple #[ZH #[Z va (ce L ⟨t,tx⟩ t (ZT L)).length vc,Z ta (ZT R) tc],J I 0]) (by simp[results,QF,go_sem,r0,r1]) rfl ⟨_,_,R,rfl,aA (aC (aC (aC OF (R:=X) (j:=0) (by omega) _) (R:=A (h w)+1) (j:=0) (by omega) _) (R:=A (h w)+1) (j:=1) (by omega) _) (by omega),iC (((RX _ ((ph.trans (m.mono (by omega))).setCell (p:=(Q X 0 Y)) ly _)).set (X:=A (h w)+1) (j:=0) (by omega) _).set (X:=A (h w)+1) (j:=1) (by omega) _) (by omega),HM,(((B4.trans (m.mono (by omega))).setCell (by simp;omega) _).setCell (by simp) _).setCell (by simp) _⟩
   |false =>
    go_wp2_with (at_builtin;(refine DD _ rfl (.tmp 73) (.tmp 77) 30 rfl u 87 ZS (ZH #[U ⟨#[]⟩,U ⟨#[]⟩]) 2 32 MY ZP ZO ZQ O rfl (by decide) _ (ce L ⟨t,tx⟩ t (ZT L)).length ((ce L ⟨t,tx⟩ t (ZT L)).flatMap bw) (by simp[Act.eval]) (ZW.alloc _) (Q (A (h wr)) 0 Y) 1 1 (bw ⟨t,tx⟩) (by simp[Act.eval]) rfl (cU wr _ _ _) (by simp[bw,Value.oneCell']) (by unfold maxLen;omega) (by omega) (by have:=m.size;have:=g.out;simp;omega) ?_;intro vz wz l f q;obtain⟨gs,cs,rfl⟩:=ef l (by omega);have OZ:=ae l;have ZN:=ae (bg (m.alloc (by have:=m.size;have:=g.out;omega) (N #[U t,U tx] 87)) f (by have:=m.size;have:=g.out;simp;omega) (λj e=>(ZW.lt j e).1));have f8:=(ZN.cell (p:=(Q X 0 Y)) z).trans c8;have f9:=(ZN.cell (p:=(Q X 1 Y)) z).trans c9;have y8:=(ZN.frozen (p:=(Q X 0 Y)) z).trans S.z0;obtain⟨r0,q0⟩:=(X4.aa ZN (by have:=g.out;have:=M.out;omega)).r0;obtain⟨r1,V⟩:=(X4.aa ZN (by have:=g.out;have:=M.out;omega)).r1;clear l f q));have P:qq L ⟨t,tx⟩ t=ce L ⟨t,tx⟩ t (ZT L)++[⟨t,tx⟩]:=by unfold qq;rw[eT (by rw[<-B.out];simp)]
    have OF:Hid (wz.ownsRow u 87 2 (Z (T (Q gs 0 Y)) ((ce L ⟨t,tx⟩ t (ZT L)).length+1) cs) (ZT LS) (LS.flatMap bw)):=by show World.ownsRow _ _ _ _ _ _ _;rw[y.out,P,gB,IH];simpa using OZ.out
    have la:=g.out;have ex:=M.out;exact bp (v:=.tuple #[ZH #[Z (T (Q gs 0 Y)) ((ce L ⟨t,tx⟩ t (ZT L)).length+1) cs,Z ta (ZT R) tc],J I 0]) (by simp[results,QF,go_sem,r0,r1]) rfl ⟨_,_,R,rfl,aA (aC (aC (aC OF (R:=X) (j:=0) (by omega) _) (R:=A (h w)+1) (j:=0) (by omega) _) (R:=A (h w)+1) (j:=1) (by omega) _) (by omega),iC (((RX _ ((ph.trans (ZN.mono (by omega))).setCell (p:=(Q X 0 Y)) ly _)).set (X:=A (h w)+1) (j:=0) (by omega) _).set (X:=A (h w)+1) (j:=1) (by omega) _) (by omega),HM,(((B4.trans (ZN.mono (by omega))).setCell (by simp;omega) _).setCell (by simp) _).setCell (by simp) _⟩
theorem tV (a0:Option Addr)(n0 c0:Nat)(f0:Nat->Source)(a1:Option Addr)(n1 c1:Nat)(f1:Nat->Target)(t:ByteArray)(w:G)(hn0:(n0:Int)<=1048576)(hn1:(n1:Int)<=1048576)(ZK:SlSource w a0 n0 f0)(ZL:SlTarget w a1 n1 f1)(ZS:∀i,i<n1->aU (f1 i))(hs:∀i,i<n1->∀j,j<(f1 i).l->((f1 i).u j).s.size<=maxLen):Calls Tryz.prog 57 #[ZH #[Z a0 n0 c0,Z a1 n1 c1],U t] w λe w'=>∃v0 v1 R,e=ZG (.tuple #[ZH #[v0,v1],J I (li n0 f0 n1 f1 t)])/\w'.ownsRow (A (h w)) 87 2 v0 (iT n0 f0 n1 f1 t).length ((iT n0 f0 n1 f1 t).flatMap bw)/\TRow w' (A (h w)) v1 R/\R.map (·.1)=lm n0 f0 n1 f1 t/\Below (A (h w)) w w':=by
 have V0:=ae ZK;have V1:=ae ZL;have HF:=ae ZS;have HS:=ae hs;clear ZK ZL ZS hs;obtain⟨C,hC⟩:∃C,C=bm n0 f0 n1 f1:=⟨_,rfl⟩
 obtain⟨D,P⟩:∃D,D=li n0 f0 n1 f1 t:=⟨_,rfl⟩
 obtain⟨LS,H⟩:∃LS,LS=iT n0 f0 n1 f1 t:=⟨_,rfl⟩
 obtain⟨LT,ZO⟩:∃LT,LT=lm n0 f0 n1 f1 t:=⟨_,rfl⟩
 rw[<-P,<-H,<-ZO];have HC:=ae hC;have HD:=ae (P.trans (by unfold li;rw[<-hC]));have p:=ae (H.trans (by unfold iT;rw[<-P]));have o:=ae (ZO.trans (by unfold lm;rw[<-P]));clear hC P H ZO;obtain⟨W,L⟩:∃W:G,ZU (ZU w (N #[Z a0 n0 c0,Z a1 n1 c1] 33)) (N #[Z Y 0 0,Z Y 0 0] 33)=W:=⟨_,rfl⟩
 obtain⟨z,-,-,-⟩:=nb2 L;have V:=ae L;clear L;have ZN:=ae (tJ w (Z a0 n0 c0) (Z a1 n1 c1) 33);go_enter func57,ntmps57;go_wp2_with fail;rw[V.out] at ZN ⊢;clear V;refine(eu a0 n0 c0 f0 a1 n1 c1 f1 _ hn0 hn1 (V0.aa z ly) (V1.aa z ly) HF HS).mono ?_;rintro e w1 ⟨rfl,b⟩;rw[<-HC.out];have O:=ae (ZN.aa b ZN.lt');have S:=ae (z.trans (b.mono z.size));clear b z ZN;by_cases hc:C=0;case neg =>
  have ZX:=HD.out;rw[hU hc] at ZX;have f:=p.out;rw[eT (by omega)] at f;have g:=o.out;rw[eT (by omega)] at g;subst ZX f g;have hc':(C == 0)=ZB:=by simpa using hc
  obtain⟨r0,q0⟩:=O.r0;obtain⟨r1,q1⟩:=O.r1;go_wp2;exact bp (v:=.tuple #[ZH #[Z Y 0 0,Z Y 0 0],J I 1]) (by simp[results,UM,go_sem,r0,r1]) rfl ⟨_,_,[],rfl,CL _ _ _ _,df _ _,rfl,(S.setCell (by simp) _).setCell (by simp) _⟩
 subst hc;have hz:=lp HC.symm;have HZ:=ae hz;clear hz HC;have E:=HD.out;rw[eT (by omega)] at E;have K:=ae E;clear E HD;go_wp2_with fail;refine(cV t _).mono ?_;rintro e w2 ⟨rfl,b⟩;have m:=ae (O.aa b O.lt');have ZP:=ae (S.trans (b.mono S.size));clear b O S;cases hn:av t with
 |false =>have ZX:=K.out;rw[hU hn] at ZX;have f:=p.out;rw[eT (by omega)] at f;have g:=o.out;rw[eT (by omega)] at g;subst ZX f g;clear hn;obtain⟨r0,q0⟩:=m.r0;obtain⟨r1,q1⟩:=m.r1;go_wp2;exact bp (v:=.tuple #[ZH #[Z Y 0 0,Z Y 0 0],J I 2]) (by simp[results,UM,go_sem,r0,r1]) rfl ⟨_,_,[],rfl,CL _ _ _ _,df _ _,rfl,(ZP.setCell (by simp) _).setCell (by simp) _⟩
 |true =>
  have ZW:=K.out;rw[eT (by simp[hn])] at ZW;have ZM:=ae ZW;clear ZW K hn;have M:=m.a0;have B:=m.a1;go_wp2_with fail;refine(tM a0 n0 c0 a1 n1 c1 f0 t _ hn0 (V0.aa ZP ly)).mono ?_;rintro e wS ⟨r,rfl,u,b⟩;have x:=ae (m.aa b m.lt');have ZQ:=ae (ZP.trans (b.mono ZP.size));clear b m ZP M B;have M:=x.a0;have B:=x.a1;by_cases hr:r<0;focus
   have ZJ:Hid (aG (nm0 f0) n0 t=ZB):=by show _=ZB;rw[<-u];simpa using hr
   clear u;go_wp2_with fail;refine(mg a0 n0 c0 a1 n1 c1 f1 t _ hn1 (V1.aa ZQ ly)).mono ?_;rintro e w3 ⟨q,rfl,n,b⟩;have l:=ae (x.aa b x.lt');have y:=ae (ZQ.trans (b.mono ZQ.size));clear b x ZQ M B;have M:=l.a0;have B:=l.a1;by_cases hq:q<0
   ·have hi:(aG (nm0 f0) n0 t || aG (nm1 f1) n1 t)=ZB:=by rw[ZJ.out,<-n];simpa using hq
    clear n;have ZX:=ZM.out;rw[hU hi] at ZX;have f:=p.out;rw[eT (by omega)] at f;have g:=o.out;rw[eT (by omega)] at g;subst ZX f g;obtain⟨r0,q0⟩:=l.r0;obtain⟨r1,q1⟩:=l.r1;go_wp2;exact bp (v:=.tuple #[ZH #[Z Y 0 0,Z Y 0 0],J I 4]) (by simp[results,UM,go_sem,r0,r1]) rfl ⟨_,_,[],rfl,CL _ _ _ _,df _ _,rfl,(y.setCell (by simp) _).setCell (by simp) _⟩
   have hi:(aG (nm0 f0) n0 t || aG (nm1 f1) n1 t)=ZF:=by rw[ZJ.out,<-n];simpa using hq
   clear n
  rotate_left;focus
   have hi:(aG (nm0 f0) n0 t || aG (nm1 f1) n1 t)=ZF:=by rw[<-u];have:decide (0<=r)=ZF:=MR (by omega);rw[this];rfl
   clear u;have l:=x;have y:=ZQ
  all_goals
   have ZX:=ZM.out;rw[eT (by simp[hi])] at ZX;have f:=p.out;rw[hU ZX] at f;have g:=o.out;rw[hU ZX] at g;subst ZX f g;go_wp2_with fail;refine(fR a0 n0 c0 f0 a1 n1 c1 f1 t _ hn0 hn1 (V0.aa y ly) (V1.aa y ly) HF).mono ?_;rintro e w4 ⟨v0,v1,R,rfl,hO,hR,hM,b⟩;have X4:=ae (l.aa b l.lt');have hlt4:=l.lt;have B4:=ae (y.trans (b.mono y.size));obtain⟨sa,sc,rfl⟩:=aF hO;obtain⟨ta,tc,rfl⟩:=aF hR.y;have O4:=ae (aA (aC (aC (R:=A (h w)+1) (j:=0) hO (by omega) (Z sa (keepS f0 t n0).length sc)) (R:=A (h w)+1) (j:=1) (by omega) (Z ta (ZT R) tc)) (base':=A (h w)) (by omega));have T4:=ae (iC ((hR.set (X:=A (h w)+1) (j:=0) (by omega) (Z sa (keepS f0 t n0).length sc)).set (X:=A (h w)+1) (j:=1) (by omega) (Z ta (ZT R) tc)) (base':=A (h w)) (by omega));have HM:=ae hM;clear hO hR b hM M B;obtain⟨r0,q0⟩:=X4.r0;obtain⟨r1,q1⟩:=X4.r1;go_wp2;exact bp (v:=.tuple #[ZH #[Z sa (keepS f0 t n0).length sc,Z ta (ZT R) tc],J I 0]) (by simp[results,UM,go_sem,r0,r1]) rfl ⟨_,_,R,rfl,O4,T4,HM,(B4.setCell (by simp) _).setCell (by simp) _⟩
