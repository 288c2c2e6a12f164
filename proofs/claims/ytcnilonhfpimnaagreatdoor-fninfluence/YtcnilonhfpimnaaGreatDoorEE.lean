import Derived.Test.YtcnilonhfpimnaaGreatDoorEA
import Derived.Test.YtcnilonhfpimnaaGreatDoorFS
set_option linter.all false
set_option maxRecDepth 100000
set_option maxHeartbeats 8000000
open Go renaming Addr.mk->T,Value.slice->Z,Value.string->U,Value.int->J,Value.agg->ZJ,Obj.cells->N,IntKind.i64->I,World->E,Ending.returned->ZI,World.heap->A,World.alloc->ZU,World.frozen?->ZV
open Option renaming none->Y,some->Q
open Bool renaming false->ZA
open Array renaming size->z
open List renaming length->B
namespace Go.Proofs.YtcnilonhfpimnaaGreatDoor.Vp
open Tryz RowKit Ca
def DF (w:E)(e:Ending)(b:E):Prop:=∃(a0:O_) (n0 c0:Nat) (f0:Nat->Source) (a1:O_) (n1 c1:Nat) (f1:Nat->Target),e=ZI (ZJ #[Z a0 n0 c0,Z a1 n1 c1])/\HSp (z (A w)) b a0 n0 f0 a1 n1 f1/\Below (z (A w)) w b
def Ak (b0 n0 c0 n1 c1:Nat)(a0:O_)(f0:Nat->Source)(a1:O_)(f1:Nat->Target)(less:Int)(w:E)(h0:0<=less)(h1:less<=1)(hH:HSp b0 w a0 n0 f0 a1 n1 f1):Calls Tryz.prog 34 #[ZJ #[Z a0 n0 c0,Z a1 n1 c1],J I less] w λe w'=>DF w e w':=by
 have hn0:=hH.hn0;have hn1:=hH.hn1;obtain⟨hs,ht⟩:=hH.sl w (Agr.refl _ _);have ZN:=ae hH.aq;have l:=ae hs;have HT:=ae ht;clear hs ht hH;obtain⟨bt,m,mv,ph,fd⟩:=NP fw;obtain⟨W,H⟩:∃W:E,ZU (ZU w (N #[Z a0 n0 c0,Z a1 n1 c1] 29)) (N #[Z Y 0 0,Z Y 0 0] 29)=W:=⟨_,rfl⟩
 obtain⟨M,-,-,hzA⟩:=nb2 H;have G:=ae H;clear H;have KR:Hid (W.heap[z (A w)+1]?=Q (N #[Z Y 0 0,Z Y 0 0] 29 (0,0))):=by rw[<-G.i];have h2:=gM (ZU w (N #[Z a0 n0 c0,Z a1 n1 c1] 29)) (N #[Z Y 0 0,Z Y 0 0] 29);rw[show(z (A (ZU w (N #[Z a0 n0 c0,Z a1 n1 c1] 29))))=z (A w)+1 by simp] at h2;exact h2
 go_enter func34,ntmps34;go_wp2_with fail;rw[G.i];clear G;refine(fH a0 n0 c0 f0 a1 n1 c1 f1 ⟨#[]⟩ W (by omega) (by omega) (l.aa M ly) (HT.aa M ly) (λi hi=>by have:=(ZN i hi).1;unfold aP;omega)).P ?_;rintro e ZQ⟨v0,S,RT,rfl,ZX,D,hM,ZW⟩;obtain⟨C,c2,rfl⟩:=aJ ZX;obtain⟨a3,c3,rfl⟩:=aJ D.u;have G1:=ae (yt hM ZN);have hl1:=qL hM;have ld:=gO f0 ⟨#[]⟩ n0;clear hM l HT ZN;generalize Qz f0 ⟨#[]⟩ n0=o at ZX ld ⊢;have hsz:=ZW.size;have X:=ae (oD (rr:=z (A w)+1) (base:=z (A w)+2) ((ZW.p _ (by omega)).k KR) (by omega) (by omega) (by omega) ZX D);have B1:=ae ((M.k (ZW.P (by omega))).alloc (by omega) (N #[Z C (B o) c2,Z a3 (B RT) c3] 29));clear ZX D ZW M KR;have hw2:IntKind.i64.wrap (200 - less)=200 - less:=by rw[nL];omega
 go_wp2_with fail;generalize World.alloc ZQ _=W2 at X B1 ⊢;go_loopw [6] (λi wr=>∃(k:Nat) (S:Value) (b:List TR),i=J I k/\k<=B b/\(B b)<=300/\Hid (SpX (z (A w)+1) (z (A ZQ)) (z (A w)+2) wr (Z C (B o) c2) S o b)/\Hid (GX b)/\Hid (Below (z (A w)) w wr)) (λi _=>400 - (intOf i).toNat);case atStart=>exact⟨0,_,RT,rfl,by omega,by omega,X,G1,B1⟩
 case round =>
  obtain⟨k,S,b,rfl,hk,n8,s,G2,B2⟩:=hrel;obtain⟨ZT,c5,rfl⟩:=aJ s.w.u;obtain⟨n9,aq⟩:=s.cells;have hxl:=s.lt;have hw1:IntKind.i64.wrap ((B o:Int)+B b)=(B o:Int)+B b:=by rw[nL];omega
  by_cases hlt:(B o:Int)+B b<200 - less
  ·have hwk:IntKind.i64.wrap ((k:Int)+1)=(k:Int)+1:=by rw[nL];omega
   go_wp2_with fail;clear n9 aq;have t:=ae s.Qq;refine aI (BxT (Z C (B o) c2) (Z ZT (B b) c5) (z (A ZQ))) 13 (by kernel_rfl) ?_;have l:=ae (t wr.drew (λj m _=>rfl));iterate 3
    refine aO 0 (v:=?_) rfl rfl (by kernel_rfl) (λ_ _ _ h=>h) rfl ?_ l ?_;rotate_left
    ·(rintro wz⟨s0,s1⟩;go_simp)
     (try with_reducible rfl)
    (try simp only[Act.put,z_])
   refine ai (i:=3) rfl (by kernel_rfl) λK f=>?_;go_simp;go_at_call 56;refine(iL k (by omega) _).P ?_;rintro e wl⟨ZL,rfl,hlb,ZO⟩;have ZR:Hid (Below (z (A wr)) wr wl):=(BS wr).drew.k ZO;clear ZO l;have l:=ae (t wl (λj m _=>ZR.p j m));refine f _ _ (λ_=>l) ?_;clear f K
   (try simp only[Act.put,z_])
   refine fs (i:=4) (v:=U (⟨#[118]⟩++ZL)) rfl (by kernel_rfl) (by kernel_rfl) (by kernel_rfl) (by kernel_rfl) (λ_ _ _ h=>h) rfl ?_ l ?_;{intro wz _;go_simp;omega}
   (try simp only[Act.put,z_])
   generalize (⟨#[118]⟩:F_)++ZL=ZY;refine ai (i:=5) rfl (by kernel_rfl) λK f=>?_;go_simp;go_at_call 57;refine(bC _ _).P ?_;rintro e wm⟨rfl,O⟩;have L:=ae (ZR.k (O.P ZR.size));clear O l;have l:=ae (t wm (λj m _=>L.p j m));refine f _ _ (λ_=>l) ?_;clear f K
   (try simp only[Act.put,z_])
   refine ai (i:=6) rfl (by kernel_rfl) λK f=>?_;go_simp;go_at_call 58;refine(bq _ _).P ?_;rintro e n⟨rfl,P⟩;have ZP:=ae (L.k (P.P L.size));clear P l ZR L;have hzn:=ZP.size;have BI:=ae (ZP.alloc (by omega) (N #[J I 1,U ⟨#[107]⟩,J I 0,J I 15,U ⟨#[]⟩,J I 0] 102));have hxi:=s.hi;have OI:=ae (rN n (base:=z (A w)+2) (by omega));have l:=ae (t n (λj m _=>ZP.p j m));refine f _ _ (λ_=>l) ?_;clear f K l
   (try simp only[Act.put,z_])
   have l:=ae (t _ (λj m _=>BI.p j m));iterate 3
    refine bV 7 rfl rfl (by kernel_rfl) λK f=>?_;go_simp;refine f _ _ (λ_=>l) ?_;clear f K
    (try simp only[Act.put,z_])
   have ZM:z (A (ZU n (N #[J I 1,U ⟨#[107]⟩,J I 0,J I 15,U ⟨#[]⟩,J I 0] 102)))=z (A n)+1:=by simp
   have AB:=ae (BI.alloc (by omega) (N #[U ZY,Z (Q (T (z (A n)) 0 Y)) 2 2] 86));refine ai (i:=10) rfl (by kernel_rfl) λK f=>?_;go_simp;have ZS:=ae (s.aa AB ly);have OA:=ae (K_ OI (br.alloc ly (N #[U ZY,Z (Q (T (z (A n)) 0 Y)) 2 2] 86)) ly);refine f _ _ (λ_=>t _ (λj m _=>AB.p j m)) ?_;clear f K
   (try simp only[Act.put,z_])
   refine ai (i:=11) rfl (by kernel_rfl) λK f=>?_;refine aU rfl (.tmp 22) (.tmp 31) 27 rfl (z (A w)+2) 86 bt (ZJ #[U ⟨#[]⟩,Z Y 0 0]) 2 40 ON m mv ph fd rfl (by decide) (Z ZT (B b) c5) (B b) (b.flatMap aZ) (by simp[Act.eval]) ZS.w.u (T (z (A n)+1) 0 Y) 1 1 (aZ (⟨ZY,2,lsI iy⟩,z (A n),2)) (by simp[Act.eval]) rfl (λj u hu=>mC (ZM) _ _ _ j u hu) (by simp[aZ,Value.oneCell']) (by unfold maxLen;omega) (by omega) (by have:=ZS.hi;have:=ZS.lt;omega) ?_;intro v' w7 y q _;obtain⟨a7,c7,rfl⟩:=aJ y;have R:=ae (t w7 (λj m la=>(q.p j (lj m AB.size) la).k (AB.p j m)));obtain⟨c8,b8⟩:=ZS.addT (x:=⟨ZY,2,lsI iy⟩) (g:=z (A n)) (c:=2) (λr hr e=>by have:=s.w.ltg r hr;omega) OA y q;have X9:=ae c8;have B9:=ae b8;clear y q c8 b8;refine f _ _ (λ_=>R) ?_;clear f K
   (try simp only[Act.put,z_])
   refine ai (i:=12) rfl (by kernel_rfl) λK f=>?_;go_simp;refine f _ _ (λ_=>R) ?_;clear f K
   (try simp only[Act.put,z_])
   obtain⟨V,t7⟩:=R.i;have f7:ZV w7 (T (z (A ZQ)) 1 Y)=ZA:=by simp[World.frozen?,V]
   have l7:=aj V;clear V;refine ai (i:=13) rfl (by kernel_rfl) λK f=>?_;go_simp;refine f _ _ (λh=>absurd rfl h) ?_;clear f K
   (try simp only[Act.put,z_])
   refine ba (by kernel_rfl) ?_ _;go_wp2;have BB:=ae ((AB.P (show (z (A w))+2<=z (A wr) by omega)).k B9.i);refine⟨⟨k+1,Z a7 (B b+1) c7,b++[((⟨ZY,2,lsI iy⟩,z (A n),2):TR)],by go_num,by rw[cM];exact Nat.succ_le_succ hk,by rw[cM];exact(by omega:B b+1<=300),X9,G2.add (r:=(⟨ZY,2,lsI iy⟩,z (A n),2)) (by show 2<=300;omega) pD,B2.k (BB.P (by omega))⟩,by simp[intOf];omega⟩
  ·have kr:=s.res;have r0:wr.cell? (T (z (A w)+1) 0 Y)=Q (Z Y 0 0):=by simp[World.cell?,kr]
   have r1:wr.cell? (T (z (A w)+1) 1 Y)=Q (Z Y 0 0):=by simp[World.cell?,kr]
   have f0:ZV wr (T (z (A w)+1) 0 Y)=ZA:=by simp[World.frozen?,kr]
   have f1:ZV wr (T (z (A w)+1) 1 Y)=ZA:=by simp[World.frozen?,kr]
   have l0:=aj kr;clear kr;have BE:=ae ((B2.setCell (p:=(T (z (A w)+1) 0 Y)) (BV _) (Z C (B o) c2)).setCell (p:=(T (z (A w)+1) 1 Y)) (BV _) (Z ZT (B b) c5));have HE:=ae ((s.fin rfl rfl (by omega) n8 G2 (Z C (B o) c2) (Z ZT (B b) c5)).P (show (z (A w))<=z (A w)+2 by omega));go_wp2;exact bp (v:=ZJ #[Z C (B o) c2,Z ZT (B b) c5]) (by simp[results,results34,go_sem,r0,r1]) rfl ⟨_,_,_,_,_,_,_,_,rfl,HE,BE⟩
def DFn (n:Nat)(w:E)(e:Ending)(f:E):Prop:=∃(a0:O_) (n0 c0:Nat) (f0:Nat->Source) (a1:O_) (c1:Nat) (b:List TR),e=ZI (ZJ #[Z a0 n0 c0,Z a1 (B b) c1])/\(B b)=n/\n0<=250/\HSp (z (A w)) f a0 n0 f0 a1 (B b) (aW (b.map (·.1)))/\TRow f (z (A w)+1) (Z a1 (B b) c1) b/\GX b/\(∀r∈b,r.1.e.size<=5000/\r.1.h=3)/\Below (z (A w)) w f
def kO (n:Nat)(hn:n<=200)(en:F_)(he:en.size<=5000)(w:E):Calls Tryz.prog 69 #[J I n,U en] w λe w'=>DFn n w e w':=by
 obtain⟨ph,l,sm,ur,qr⟩:=NP fw;have aq:z (A (ZU w (N #[Z Y 0 0,Z Y 0 0] 29)))=z (A w)+1:=by simp
 have V:z (A (ZU (ZU w (N #[Z Y 0 0,Z Y 0 0] 29)) (N #[U ⟨#[97]⟩,U ⟨#[103,114,111,117,110,100]⟩] 82)))=z (A w)+1+1:=by simp
 obtain⟨W2,H⟩:∃W:E,ZU (ZU (ZU w (N #[Z Y 0 0,Z Y 0 0] 29)) (N #[U ⟨#[97]⟩,U ⟨#[103,114,111,117,110,100]⟩] 82)) (N #[Z (Q (T (z (A w)+1) 0 Y)) 1 1,Z Y 0 0] 29)=W:=⟨_,rfl⟩
 obtain⟨A0,-,-,-,-⟩:=nb3 H;have G:=ae H;clear H;have X1:Hid (SpX (z (A w)) (z (A w)+1+1) (z (A w)+1) W2 (Z (Q (T (z (A w)+1) 0 Y)) 1 1) (Z Y 0 0) [⟨⟨#[97]⟩,⟨#[103,114,111,117,110,100]⟩⟩] []):=by rw[<-G.i];have k1:=gM w (N #[Z Y 0 0,Z Y 0 0] 29);have k2:=gM (ZU w (N #[Z Y 0 0,Z Y 0 0] 29)) (N #[U ⟨#[97]⟩,U ⟨#[103,114,111,117,110,100]⟩] 82);rw[aq] at k2;have BQ:=(a8 (z (A w)+1) (ZU w (N #[Z Y 0 0,Z Y 0 0] 29))).alloc (by omega) (N #[U ⟨#[97]⟩,U ⟨#[103,114,111,117,110,100]⟩] 82);have h:=oD (LS:=[⟨⟨#[97]⟩,⟨#[103,114,111,117,110,100]⟩⟩]) (base:=z (A w)+1) (base':=z (A w)+1) ((BQ.p (z (A w)) (eL _)).k k1) (eL _) ly (by omega) (v0:=Z (Q (T (z (A w)+1) 0 Y)) 1 1) ⟨rfl,.inr ⟨z (A w)+1,1,_,rfl,p7 _,k2,p7 _,by unfold maxLen;omega,rfl,rfl⟩⟩ (dq _ _);rw[V] at h;exact h
 have hw2:IntKind.i64.wrap ((n:Int) - 1)=(n:Int) - 1:=by rw[nL];omega
 clear aq V;go_enter func69,ntmps69;go_wp2_with fail;rw[G.i];clear G;obtain⟨q,ZY,c2,hLS,ex⟩:∃(q:List Source) (ZY:O_) (c2:Nat),B q<=250/\Hid (SpX (z (A w)) (z (A w)+1+1) (z (A w)+1) W2 (Z ZY (B q) c2) (Z Y 0 0) q []):=⟨[⟨⟨#[97]⟩,⟨#[103,114,111,117,110,100]⟩⟩],Q (T (z (A w)+1) 0 Y),1,by show 1<=250;omega,X1⟩
 clear X1;generalize th:z (A w)+1+1=xb at ex ⊢;clear th;go_loopw [6] (λi wr=>∃(k:Nat) (v1:Value) (b:List TR),i=J I k/\k<=n/\(B b)=k/\Hid (SpX (z (A w)) xb (z (A w)+1) wr (Z ZY (B q) c2) v1 q b)/\Hid (GX b)/\Hid (∀r∈b,r.1.e.size<=5000/\r.1.h=3)/\Hid (Below (z (A w)) w wr)) (λi _=>n - (intOf i).toNat);case atStart=>exact⟨0,_,[],rfl,by omega,rfl,ex,λ_ h=>absurd h nj,λ_ h=>absurd h nj,A0⟩
 case round =>
  obtain⟨k,v1,b,rfl,hk,ZP,ZT,G2,N2,B2⟩:=hrel;have HK:Hid (B b=k):=ZP;obtain⟨L,c5,rfl⟩:=aJ ZT.w.u;obtain⟨la,ZN⟩:=ZT.cells;have n9:=ZT.lt;have hrn:B b<=200:=by omega
  clear ZP;by_cases hlt:k<n
  ·have hwk:IntKind.i64.wrap ((k:Int)+1)=(k:Int)+1:=by rw[nL];omega
   go_wp2_with fail;refine(iL (k+1) (by omega) _).P ?_;rintro e ZR⟨nb,rfl,hnb,ZQ⟩;have M:=ae (ZT.aa ZQ ly);have B3:=ae (B2.k (ZQ.P B2.size));obtain⟨la,ZN⟩:=M.cells;have n9:=M.lt;clear ZQ;by_cases fd:(n:Int) - 1=(k:Int)
   case' pos =>
    go_wp2_with fail;obtain⟨t,o⟩:∃ZW,ZW=en:=⟨_,rfl⟩
    have n8:t.size<=5000:=by rw[o];omega
   case' neg =>
    have mv:¬ (k:Int)=(n:Int) - 1:=λe=>fd e.c;clear fd;go_wp2_with fail;clear mv;obtain⟨t,o⟩:∃ZW,ZW=nb:=⟨_,rfl⟩
    have n8:t.size<=5000:=by rw[o];omega
   all_goals
    rw[<-o];have HZ:=ae o;clear o;clear la ZN;have ZX:=ae M.Qq;refine aI (BxT (Z ZY (B q) c2) (Z L (B b) c5) xb) 14 (by kernel_rfl) ?_;have m:=ae (ZX ZR.drew (λj l _=>rfl))
    iterate 3
     refine aO 0 (v:=?_) rfl rfl (by kernel_rfl) (λ_ _ _ h=>h) rfl ?_ m ?_;rotate_left
     ·(rintro wz⟨s0,s1⟩;go_simp)
      (try with_reducible rfl)
     (try simp only[Act.put,z_])
    refine aO 4 (v:=?_) rfl rfl (by kernel_rfl) (λ_ _ _ h=>h) rfl ?_ m ?_;rotate_left
    ·(rintro wz⟨s0,s1⟩;go_simp)
     (try with_reducible rfl)
    (try simp only[Act.put,z_])
    refine ai (i:=3) rfl (by kernel_rfl) λK f=>?_;go_simp;go_at_call 56;refine(iL k (by omega) _).P ?_;rintro e wl⟨C,rfl,htn,bt⟩;have ZO:Hid (Below (z (A ZR)) ZR wl):=(BS ZR).drew.k bt;clear bt m;have m:=ae (ZX wl (λj l _=>ZO.p j l));refine f _ _ (λ_=>m) ?_;clear f K
    (try simp only[Act.put,z_])
    refine ai (i:=5) rfl (by kernel_rfl) λK f=>?_;go_simp;go_at_call 57;refine(bC _ _).P ?_;rintro e wm⟨rfl,X⟩;have S:=ae (ZO.k (X.P ZO.size));clear X m;have m:=ae (ZX wm (λj l _=>S.p j l));refine f _ _ (λ_=>m) ?_;clear f K
    (try simp only[Act.put,z_])
    refine ai (i:=6) rfl (by kernel_rfl) λK f=>?_;go_simp;go_at_call 58;refine(bq _ _).P ?_;rintro e wo⟨rfl,ZL⟩;have R:=ae (S.k (ZL.P S.size));clear ZL m;have m:=ae (ZX wo (λj l _=>R.p j l));refine f _ _ (λ_=>m) ?_;clear f K
    (try simp only[Act.put,z_])
    refine ai (i:=7) rfl (by kernel_rfl) λK f=>?_;go_simp;go_at_call 58;refine(bq _ _).P ?_;rintro e s⟨rfl,ZM⟩;have BN:=ae (R.k (ZM.P R.size));clear ZM m ZO S R;have hzn:=BN.size;have BI:=ae (BN.alloc (by omega) (N #[J I 1,U t,J I 0,J I 12,U ⟨#[]⟩,J I 0,J I 15,U ⟨#[]⟩,J I 0] 102));have hxi:=M.hi;have OI:=ae (Cv s t (base:=z (A w)+1) (by omega));have m:=ae (ZX s (λj l _=>BN.p j l));refine f _ _ (λ_=>m) ?_;clear f K m
    (try simp only[Act.put,z_])
    have m:=ae (ZX _ (λj l _=>BI.p j l))
    iterate 3
     refine bV 8 rfl rfl (by kernel_rfl) λK f=>?_;go_simp;refine f _ _ (λ_=>m) ?_;clear f K
     (try simp only[Act.put,z_])
    have ld:z (A (ZU s (N #[J I 1,U t,J I 0,J I 12,U ⟨#[]⟩,J I 0,J I 15,U ⟨#[]⟩,J I 0] 102)))=z (A s)+1:=by simp
    have AB:=ae (BI.alloc (by omega) (N #[U C,Z (Q (T (z (A s)) 0 Y)) 3 3] 86));refine ai (i:=11) rfl (by kernel_rfl) λK f=>?_;go_simp;have P:=ae (M.aa AB ly);have OA:=ae (K_ OI (br.alloc ly (N #[U C,Z (Q (T (z (A s)) 0 Y)) 3 3] 86)) ly);refine f _ _ (λ_=>ZX _ (λj l _=>AB.p j l)) ?_;clear f K
    (try simp only[Act.put,z_])
    refine ai (i:=12) rfl (by kernel_rfl) λK f=>?_;refine aU rfl (.tmp 25) (.tmp 35) 27 rfl (z (A w)+1) 86 ph (ZJ #[U ⟨#[]⟩,Z Y 0 0]) 2 40 ON l sm ur qr rfl (by decide) (Z L (B b) c5) (B b) (b.flatMap aZ) (by simp[Act.eval]) P.w.u (T (z (A s)+1) 0 Y) 1 1 (aZ (⟨C,3,lsI (iZ t)⟩,z (A s),3)) (by simp[Act.eval]) rfl (λj u hu=>mC (ld) _ _ _ j u hu) (by simp[aZ,Value.oneCell']) (by unfold maxLen;omega) (by omega) (by have:=P.hi;have:=P.lt;omega) ?_;intro v' w7 ZS y _;obtain⟨a7,c7,rfl⟩:=aJ ZS;have S7:=ae (ZX w7 (λj l ro=>(y.p j (lj l AB.size) ro).k (AB.p j l)));obtain⟨c8,b8⟩:=P.addT (x:=⟨C,3,lsI (iZ t)⟩) (g:=z (A s)) (c:=3) (λr D e=>by have:=M.w.ltg r D;omega) OA ZS y;have X9:=ae c8;have B9:=ae b8;clear ZS y c8 b8;refine f _ _ (λ_=>S7) ?_;clear f K
    (try simp only[Act.put,z_])
    refine ai (i:=13) rfl (by kernel_rfl) λK f=>?_;go_simp;refine f _ _ (λ_=>S7) ?_;clear f K
    (try simp only[Act.put,z_])
    obtain⟨s7,t7⟩:=S7.i;have f7:ZV w7 (T xb 1 Y)=ZA:=by simp[World.frozen?,s7]
    have l7:=aj s7;clear s7;refine ai (i:=14) rfl (by kernel_rfl) λK f=>?_;go_simp;refine f _ _ (λh=>absurd rfl h) ?_;clear f K
    (try simp only[Act.put,z_])
    refine ba (by kernel_rfl) ?_ _;have o:=HZ.i;subst o;go_wp2;have BB:=ae ((AB.P (show (z (A w))+1<=z (A ZR) by omega)).k B9.i)
    refine⟨⟨k+1,Z a7 (B b+1) c7,b++[((⟨C,3,lsI (iZ t)⟩,z (A s),3):TR)],by go_num,by omega,by rw[cM,HK.i];rfl,X9,G2.add (r:=(⟨C,3,lsI (iZ t)⟩,z (A s),3)) (by show 3<=300;omega) (Ag (by omega)),(λr D=>by
     rcases p8.1 D with D|D
     ·exact N2 r D
     ·rw[j4.1 D];exact⟨by show C.size<=5000;omega,rfl⟩),B3.k (BB.P (by omega))⟩,by simp[intOf];omega⟩
  ·obtain rfl:k=n:=by omega
   have kr:=ZT.res;have r0:wr.cell? (T (z (A w)) 0 Y)=Q (Z Y 0 0):=by simp[World.cell?,kr]
   have r1:wr.cell? (T (z (A w)) 1 Y)=Q (Z Y 0 0):=by simp[World.cell?,kr]
   have f0:ZV wr (T (z (A w)) 0 Y)=ZA:=by simp[World.frozen?,kr]
   have f1:ZV wr (T (z (A w)) 1 Y)=ZA:=by simp[World.frozen?,kr]
   have l0:=aj kr;clear kr;have BE:=ae ((B2.setCell (p:=(T (z (A w)) 0 Y)) ly (Z ZY (B q) c2)).setCell (p:=(T (z (A w)) 1 Y)) ly (Z L (B b) c5));have HE:=ae ((ZT.fin rfl rfl (by omega) (by omega) G2 (Z ZY (B q) c2) (Z L (B b) c5)).P (BV (z (A w))));have TE:=ae ((ZT.w.set (j:=0) (eL _) (Z ZY (B q) c2)).set (j:=1) (eL _) (Z L (B b) c5));go_wp2;exact bp (v:=ZJ #[Z ZY (B q) c2,Z L (B b) c5]) (by simp[results,results69,go_sem,r0,r1]) rfl ⟨_,_,_,_,_,_,_,rfl,HK,by omega,HE,TE,G2,N2,BE⟩
def xC (n:Nat)(hn:n<=200)(b:F_)(f:b.size<=5000)(w:E):Calls Tryz.prog 69 #[J I n,U b] w λe i=>DF w e i:=
 (kO n hn b f w).P λ_ _ ⟨a0,n0,c0,f0,a1,c1,g,h1,_,_,h2,_,_,_,h⟩=>⟨a0,n0,c0,f0,a1,B g,c1,_,h1,h2,h⟩
