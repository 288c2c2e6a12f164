import Derived.Test.YthkgkfehliinfaaGreatDoorEA
import Derived.Test.YthkgkfehliinfaaGreatDoorFR
set_option linter.all false
set_option maxRecDepth 100000
set_option maxHeartbeats 8000000
open Go renaming Addr.mk->Q,Value.slice->Y,Value.string->U,Value.int->J,Value.agg->ZJ,Obj.cells->N,IntKind.i64->I,World->E,Ending.returned->ZI,World.heap->A,World.alloc->ZU,World.frozen?->ZV
open Option renaming none->Z,some->T
open Bool renaming false->ZA
open Array renaming size->z
open List renaming length->B
namespace Go.Proofs.YthkgkfehliinfaaGreatDoor.Vp
open Tryz RowKit Ca
def DF (w:E)(e:Ending)(b:E):Prop:=∃(a0:O_) (n0 c0:Nat) (f0:Nat->Source) (a1:O_) (n1 c1:Nat) (f1:Nat->Target),e=ZI (ZJ #[Y a0 n0 c0,Y a1 n1 c1])/\HSp (z (A w)) b a0 n0 f0 a1 n1 f1/\Below (z (A w)) w b
def Ak (b0 n0 c0 n1 c1:Nat)(a0:O_)(f0:Nat->Source)(a1:O_)(f1:Nat->Target)(less:Int)(w:E)(h0:0<=less)(h1:less<=1)(hH:HSp b0 w a0 n0 f0 a1 n1 f1):Calls Tryz.prog 40 #[ZJ #[Y a0 n0 c0,Y a1 n1 c1],J I less] w λe w'=>DF w e w':=by
 have hn0:=hH.hn0;have hn1:=hH.hn1;obtain⟨hs,ht⟩:=hH.sl w (Agr.refl _ _);have R:=ae hH.aq;have l:=ae hs;have HT:=ae ht;clear hs ht hH;obtain⟨n8,m,la,aq,n9⟩:=NP fw;obtain⟨W,H⟩:∃W:E,ZU (ZU w (N #[Y a0 n0 c0,Y a1 n1 c1] 29)) (N #[Y Z 0 0,Y Z 0 0] 29)=W:=⟨_,rfl⟩
 obtain⟨ZQ,-,-,hzA⟩:=nb2 H;have ZT:=ae H;clear H;have KR:Hid (W.heap[z (A w)+1]?=T (N #[Y Z 0 0,Y Z 0 0] 29 (0,0))):=by rw[<-ZT.i];have h2:=gM (ZU w (N #[Y a0 n0 c0,Y a1 n1 c1] 29)) (N #[Y Z 0 0,Y Z 0 0] 29);rw[show(z (A (ZU w (N #[Y a0 n0 c0,Y a1 n1 c1] 29))))=z (A w)+1 by simp] at h2;exact h2
 go_enter func40,ntmps40;go_wp2_with fail;rw[ZT.i];clear ZT;refine(fH a0 n0 c0 f0 a1 n1 c1 f1 ⟨#[]⟩ W (by omega) (by omega) (l.aa ZQ ly) (HT.aa ZQ ly) (λi hi=>by have:=(R i hi).1;unfold aP;omega)).P ?_;rintro e M⟨v0,V,RT,rfl,ZX,G,hM,ZW⟩;obtain⟨C,c2,rfl⟩:=aJ ZX;obtain⟨a3,c3,rfl⟩:=aJ G.y;have G1:=ae (yt hM R);have hl1:=qL hM;have ex:=gO f0 ⟨#[]⟩ n0;clear hM l HT R;generalize Qy f0 ⟨#[]⟩ n0=o at ZX ex ⊢;have hsz:=ZW.size;have X:=ae (oD (rr:=z (A w)+1) (base:=z (A w)+2) ((ZW.p _ (by omega)).k KR) (by omega) (by omega) (by omega) ZX G);have B1:=ae ((ZQ.k (ZW.P (by omega))).alloc (by omega) (N #[Y C (B o) c2,Y a3 (B RT) c3] 29));clear ZX G ZW ZQ KR;have hw2:IntKind.i64.wrap (200 - less)=200 - less:=by rw[nL];omega
 go_wp2_with fail;generalize World.alloc M _=W2 at X B1 ⊢;go_loopw [6] (λi wr=>∃(k:Nat) (V:Value) (b:List TR),i=J I k/\k<=B b/\(B b)<=300/\Hid (SpX (z (A w)+1) (z (A M)) (z (A w)+2) wr (Y C (B o) c2) V o b)/\Hid (GX b)/\Hid (Below (z (A w)) w wr)) (λi _=>400 - (intOf i).toNat);case atStart=>exact⟨0,_,RT,rfl,by omega,by omega,X,G1,B1⟩
 case round =>
  obtain⟨k,V,b,rfl,hk,ld,s,G2,B2⟩:=hrel;obtain⟨D,c5,rfl⟩:=aJ s.w.y;obtain⟨ZM,mv⟩:=s.cells;have hxl:=s.lt;have hw1:IntKind.i64.wrap ((B o:Int)+B b)=(B o:Int)+B b:=by rw[nL];omega
  by_cases hlt:(B o:Int)+B b<200 - less
  ·have hwk:IntKind.i64.wrap ((k:Int)+1)=(k:Int)+1:=by rw[nL];omega
   go_wp2_with fail;clear ZM mv;have t:=ae s.Qj;refine aI (BxT (Y C (B o) c2) (Y D (B b) c5) (z (A M))) 13 (by kernel_rfl) ?_;have l:=ae (t wr.drew (λj m _=>rfl));iterate 3
    refine aO 0 (v:=?_) rfl rfl (by kernel_rfl) (λ_ _ _ h=>h) rfl ?_ l ?_;rotate_left
    ·(rintro wz⟨s0,s1⟩;go_simp)
     (try with_reducible rfl)
    (try simp only[Act.put,yh])
   refine ai (i:=3) rfl (by kernel_rfl) λK f=>?_;go_simp;go_at_call 71;refine(iL k (by omega) _).P ?_;rintro e wl⟨lb,rfl,hlb,O⟩;have ZS:Hid (Below (z (A wr)) wr wl):=(BS wr).drew.k O;clear O l;have l:=ae (t wl (λj m _=>ZS.p j m));refine f _ _ (λ_=>l) ?_;clear f K
   (try simp only[Act.put,yh])
   refine fs (i:=4) (v:=U (⟨#[118]⟩++lb)) rfl (by kernel_rfl) (by kernel_rfl) (by kernel_rfl) (by kernel_rfl) (λ_ _ _ h=>h) rfl ?_ l ?_;{intro wz _;go_simp;omega}
   (try simp only[Act.put,yh])
   generalize (⟨#[118]⟩:F_)++lb=ZY;refine ai (i:=5) rfl (by kernel_rfl) λK f=>?_;go_simp;go_at_call 72;refine(bC _ _).P ?_;rintro e wm⟨rfl,P⟩;have L:=ae (ZS.k (P.P ZS.size));clear P l;have l:=ae (t wm (λj m _=>L.p j m));refine f _ _ (λ_=>l) ?_;clear f K
   (try simp only[Act.put,yh])
   refine ai (i:=6) rfl (by kernel_rfl) λK f=>?_;go_simp;go_at_call 73;refine(bq _ _).P ?_;rintro e n⟨rfl,ZP⟩;have ZN:=ae (L.k (ZP.P L.size));clear ZP l ZS L;have hzn:=ZN.size;have BI:=ae (ZN.alloc (by omega) (N #[J I 1,U ⟨#[107]⟩,J I 0,J I 15,U ⟨#[]⟩,J I 0] 124));have hxi:=s.hi;have OI:=ae (rN n (base:=z (A w)+2) (by omega));have l:=ae (t n (λj m _=>ZN.p j m));refine f _ _ (λ_=>l) ?_;clear f K l
   (try simp only[Act.put,yh])
   have l:=ae (t _ (λj m _=>BI.p j m));iterate 3
    refine bV 7 rfl rfl (by kernel_rfl) λK f=>?_;go_simp;refine f _ _ (λ_=>l) ?_;clear f K
    (try simp only[Act.put,yh])
   have bt:z (A (ZU n (N #[J I 1,U ⟨#[107]⟩,J I 0,J I 15,U ⟨#[]⟩,J I 0] 124)))=z (A n)+1:=by simp
   have AB:=ae (BI.alloc (by omega) (N #[U ZY,Y (T (Q (z (A n)) 0 Z)) 2 2] 95));refine ai (i:=10) rfl (by kernel_rfl) λK f=>?_;go_simp;have ZR:=ae (s.aa AB ly);have OA:=ae (J_ OI (br.alloc ly (N #[U ZY,Y (T (Q (z (A n)) 0 Z)) 2 2] 95)) ly);refine f _ _ (λ_=>t _ (λj m _=>AB.p j m)) ?_;clear f K
   (try simp only[Act.put,yh])
   refine ai (i:=11) rfl (by kernel_rfl) λK f=>?_;refine aU rfl (.tmp 22) (.tmp 31) 27 rfl (z (A w)+2) 95 n8 (ZJ #[U ⟨#[]⟩,Y Z 0 0]) 2 40 ON m la aq n9 rfl (by decide) (Y D (B b) c5) (B b) (b.flatMap aZ) (by simp[Act.eval]) ZR.w.y (Q (z (A n)+1) 0 Z) 1 1 (aZ (⟨ZY,2,lsI iy⟩,z (A n),2)) (by simp[Act.eval]) rfl (λj u hu=>mC (bt) _ _ _ j u hu) (by simp[aZ,Value.oneCell']) (by unfold maxLen;omega) (by omega) (by have:=ZR.hi;have:=ZR.lt;omega) ?_;intro v' w7 y q _;obtain⟨a7,c7,rfl⟩:=aJ y;have S:=ae (t w7 (λj m ZL=>(q.p j (lj m AB.size) ZL).k (AB.p j m)));obtain⟨c8,b8⟩:=ZR.addT (x:=⟨ZY,2,lsI iy⟩) (g:=z (A n)) (c:=2) (λr hr e=>by have:=s.w.ltg r hr;omega) OA y q;have X9:=ae c8;have B9:=ae b8;clear y q c8 b8;refine f _ _ (λ_=>S) ?_;clear f K
   (try simp only[Act.put,yh])
   refine ai (i:=12) rfl (by kernel_rfl) λK f=>?_;go_simp;refine f _ _ (λ_=>S) ?_;clear f K
   (try simp only[Act.put,yh])
   obtain⟨ZO,t7⟩:=S.i;have f7:ZV w7 (Q (z (A M)) 1 Z)=ZA:=by simp[World.frozen?,ZO]
   have l7:=aj ZO;clear ZO;refine ai (i:=13) rfl (by kernel_rfl) λK f=>?_;go_simp;refine f _ _ (λh=>absurd rfl h) ?_;clear f K
   (try simp only[Act.put,yh])
   refine ba (by kernel_rfl) ?_ _;go_wp2;have BB:=ae ((AB.P (show (z (A w))+2<=z (A wr) by omega)).k B9.i);refine⟨⟨k+1,Y a7 (B b+1) c7,b++[((⟨ZY,2,lsI iy⟩,z (A n),2):TR)],by go_num,by rw[cM];exact Nat.succ_le_succ hk,by rw[cM];exact(by omega:B b+1<=300),X9,G2.add (r:=(⟨ZY,2,lsI iy⟩,z (A n),2)) (by show 2<=300;omega) pD,B2.k (BB.P (by omega))⟩,by simp[intOf];omega⟩
  ·have kr:=s.res;have r0:wr.cell? (Q (z (A w)+1) 0 Z)=T (Y Z 0 0):=by simp[World.cell?,kr]
   have r1:wr.cell? (Q (z (A w)+1) 1 Z)=T (Y Z 0 0):=by simp[World.cell?,kr]
   have f0:ZV wr (Q (z (A w)+1) 0 Z)=ZA:=by simp[World.frozen?,kr]
   have f1:ZV wr (Q (z (A w)+1) 1 Z)=ZA:=by simp[World.frozen?,kr]
   have l0:=aj kr;clear kr;have BE:=ae ((B2.setCell (p:=(Q (z (A w)+1) 0 Z)) (BV _) (Y C (B o) c2)).setCell (p:=(Q (z (A w)+1) 1 Z)) (BV _) (Y D (B b) c5));have HE:=ae ((s.fin rfl rfl (by omega) ld G2 (Y C (B o) c2) (Y D (B b) c5)).P (show (z (A w))<=z (A w)+2 by omega));go_wp2;exact bp (v:=ZJ #[Y C (B o) c2,Y D (B b) c5]) (by simp[results,results40,go_sem,r0,r1]) rfl ⟨_,_,_,_,_,_,_,_,rfl,HE,BE⟩
def DFn (n:Nat)(w:E)(e:Ending)(f:E):Prop:=∃(a0:O_) (n0 c0:Nat) (f0:Nat->Source) (a1:O_) (c1:Nat) (b:List TR),e=ZI (ZJ #[Y a0 n0 c0,Y a1 (B b) c1])/\(B b)=n/\n0<=250/\HSp (z (A w)) f a0 n0 f0 a1 (B b) (aW (b.map (·.1)))/\TRow f (z (A w)+1) (Y a1 (B b) c1) b/\GX b/\(∀r∈b,r.1.e.size<=5000/\r.1.h=3)/\Below (z (A w)) w f
def kO (n:Nat)(hn:n<=200)(en:F_)(he:en.size<=5000)(w:E):Calls Tryz.prog 84 #[J I n,U en] w λe w'=>DFn n w e w':=by
 obtain⟨th,l,sm,ph,ur⟩:=NP fw;have aq:z (A (ZU w (N #[Y Z 0 0,Y Z 0 0] 29)))=z (A w)+1:=by simp
 have ZM:z (A (ZU (ZU w (N #[Y Z 0 0,Y Z 0 0] 29)) (N #[U ⟨#[97]⟩,U ⟨#[103,114,111,117,110,100]⟩] 91)))=z (A w)+1+1:=by simp
 obtain⟨W2,C⟩:∃W:E,ZU (ZU (ZU w (N #[Y Z 0 0,Y Z 0 0] 29)) (N #[U ⟨#[97]⟩,U ⟨#[103,114,111,117,110,100]⟩] 91)) (N #[Y (T (Q (z (A w)+1) 0 Z)) 1 1,Y Z 0 0] 29)=W:=⟨_,rfl⟩
 obtain⟨A0,-,-,-,-⟩:=nb3 C;have ZS:=ae C;clear C;have X1:Hid (SpX (z (A w)) (z (A w)+1+1) (z (A w)+1) W2 (Y (T (Q (z (A w)+1) 0 Z)) 1 1) (Y Z 0 0) [⟨⟨#[97]⟩,⟨#[103,114,111,117,110,100]⟩⟩] []):=by rw[<-ZS.i];have k1:=gM w (N #[Y Z 0 0,Y Z 0 0] 29);have k2:=gM (ZU w (N #[Y Z 0 0,Y Z 0 0] 29)) (N #[U ⟨#[97]⟩,U ⟨#[103,114,111,117,110,100]⟩] 91);rw[aq] at k2;have BQ:=(a8 (z (A w)+1) (ZU w (N #[Y Z 0 0,Y Z 0 0] 29))).alloc (by omega) (N #[U ⟨#[97]⟩,U ⟨#[103,114,111,117,110,100]⟩] 91);have h:=oD (LS:=[⟨⟨#[97]⟩,⟨#[103,114,111,117,110,100]⟩⟩]) (base:=z (A w)+1) (base':=z (A w)+1) ((BQ.p (z (A w)) (eL _)).k k1) (eL _) ly (by omega) (v0:=Y (T (Q (z (A w)+1) 0 Z)) 1 1) ⟨rfl,.inr ⟨z (A w)+1,1,_,rfl,p7 _,k2,p7 _,by unfold maxLen;omega,rfl,rfl⟩⟩ (dq _ _);rw[ZM] at h;exact h
 have hw2:IntKind.i64.wrap ((n:Int) - 1)=(n:Int) - 1:=by rw[nL];omega
 clear aq ZM;go_enter func84,ntmps84;go_wp2_with fail;rw[ZS.i];clear ZS;obtain⟨q,ZY,c2,hLS,X⟩:∃(q:List Source) (ZY:O_) (c2:Nat),B q<=250/\Hid (SpX (z (A w)) (z (A w)+1+1) (z (A w)+1) W2 (Y ZY (B q) c2) (Y Z 0 0) q []):=⟨[⟨⟨#[97]⟩,⟨#[103,114,111,117,110,100]⟩⟩],T (Q (z (A w)+1) 0 Z),1,by show 1<=250;omega,X1⟩
 clear X1;generalize mv:z (A w)+1+1=xb at X ⊢;clear mv;go_loopw [6] (λi wr=>∃(k:Nat) (v1:Value) (b:List TR),i=J I k/\k<=n/\(B b)=k/\Hid (SpX (z (A w)) xb (z (A w)+1) wr (Y ZY (B q) c2) v1 q b)/\Hid (GX b)/\Hid (∀r∈b,r.1.e.size<=5000/\r.1.h=3)/\Hid (Below (z (A w)) w wr)) (λi _=>n - (intOf i).toNat);case atStart=>exact⟨0,_,[],rfl,by omega,rfl,X,λ_ h=>absurd h nj,λ_ h=>absurd h nj,A0⟩
 case round =>
  obtain⟨k,v1,b,rfl,hk,bt,H,G2,N2,B2⟩:=hrel;have HK:Hid (B b=k):=bt;obtain⟨M,c5,rfl⟩:=aJ H.w.y;obtain⟨V,la⟩:=H.cells;have n8:=H.lt;have hrn:B b<=200:=by omega
  clear bt;by_cases hlt:k<n
  ·have hwk:IntKind.i64.wrap ((k:Int)+1)=(k:Int)+1:=by rw[nL];omega
   go_wp2_with fail;refine(iL (k+1) (by omega) _).P ?_;rintro e ZR⟨nb,rfl,hnb,O⟩;have L:=ae (H.aa O ly);have B3:=ae (B2.k (O.P B2.size));obtain⟨V,la⟩:=L.cells;have n8:=L.lt;clear O;by_cases ZL:(n:Int) - 1=(k:Int)
   case' pos =>
    go_wp2_with fail;obtain⟨t,o⟩:∃ZW,ZW=en:=⟨_,rfl⟩
    have ro:t.size<=5000:=by rw[o];omega
   case' neg =>
    have ld:¬ (k:Int)=(n:Int) - 1:=λe=>ZL e.c;clear ZL;go_wp2_with fail;clear ld;obtain⟨t,o⟩:∃ZW,ZW=nb:=⟨_,rfl⟩
    have ro:t.size<=5000:=by rw[o];omega
   all_goals
    rw[<-o];have HZ:=ae o;clear o;clear V la;have ZX:=ae L.Qj;refine aI (BxT (Y ZY (B q) c2) (Y M (B b) c5) xb) 14 (by kernel_rfl) ?_;have m:=ae (ZX ZR.drew (λj l _=>rfl))
    iterate 3
     refine aO 0 (v:=?_) rfl rfl (by kernel_rfl) (λ_ _ _ h=>h) rfl ?_ m ?_;rotate_left
     ·(rintro wz⟨s0,s1⟩;go_simp)
      (try with_reducible rfl)
     (try simp only[Act.put,yh])
    refine aO 4 (v:=?_) rfl rfl (by kernel_rfl) (λ_ _ _ h=>h) rfl ?_ m ?_;rotate_left
    ·(rintro wz⟨s0,s1⟩;go_simp)
     (try with_reducible rfl)
    (try simp only[Act.put,yh])
    refine ai (i:=3) rfl (by kernel_rfl) λK f=>?_;go_simp;go_at_call 71;refine(iL k (by omega) _).P ?_;rintro e wl⟨G,rfl,htn,ZN⟩;have P:Hid (Below (z (A ZR)) ZR wl):=(BS ZR).drew.k ZN;clear ZN m;have m:=ae (ZX wl (λj l _=>P.p j l));refine f _ _ (λ_=>m) ?_;clear f K
    (try simp only[Act.put,yh])
    refine ai (i:=5) rfl (by kernel_rfl) λK f=>?_;go_simp;go_at_call 72;refine(bC _ _).P ?_;rintro e wm⟨rfl,ex⟩;have S:=ae (P.k (ex.P P.size));clear ex m;have m:=ae (ZX wm (λj l _=>S.p j l));refine f _ _ (λ_=>m) ?_;clear f K
    (try simp only[Act.put,yh])
    refine ai (i:=6) rfl (by kernel_rfl) λK f=>?_;go_simp;go_at_call 73;refine(bq _ _).P ?_;rintro e wo⟨rfl,ZO⟩;have ZP:=ae (S.k (ZO.P S.size));clear ZO m;have m:=ae (ZX wo (λj l _=>ZP.p j l));refine f _ _ (λ_=>m) ?_;clear f K
    (try simp only[Act.put,yh])
    refine ai (i:=7) rfl (by kernel_rfl) λK f=>?_;go_simp;go_at_call 73;refine(bq _ _).P ?_;rintro e s⟨rfl,fd⟩;have BN:=ae (ZP.k (fd.P ZP.size));clear fd m P S ZP;have hzn:=BN.size;have BI:=ae (BN.alloc (by omega) (N #[J I 1,U t,J I 0,J I 12,U ⟨#[]⟩,J I 0,J I 15,U ⟨#[]⟩,J I 0] 124));have hxi:=L.hi;have OI:=ae (Cv s t (base:=z (A w)+1) (by omega));have m:=ae (ZX s (λj l _=>BN.p j l));refine f _ _ (λ_=>m) ?_;clear f K m
    (try simp only[Act.put,yh])
    have m:=ae (ZX _ (λj l _=>BI.p j l))
    iterate 3
     refine bV 8 rfl rfl (by kernel_rfl) λK f=>?_;go_simp;refine f _ _ (λ_=>m) ?_;clear f K
     (try simp only[Act.put,yh])
    have qr:z (A (ZU s (N #[J I 1,U t,J I 0,J I 12,U ⟨#[]⟩,J I 0,J I 15,U ⟨#[]⟩,J I 0] 124)))=z (A s)+1:=by simp
    have AB:=ae (BI.alloc (by omega) (N #[U G,Y (T (Q (z (A s)) 0 Z)) 3 3] 95));refine ai (i:=11) rfl (by kernel_rfl) λK f=>?_;go_simp;have R:=ae (L.aa AB ly);have OA:=ae (J_ OI (br.alloc ly (N #[U G,Y (T (Q (z (A s)) 0 Z)) 3 3] 95)) ly);refine f _ _ (λ_=>ZX _ (λj l _=>AB.p j l)) ?_;clear f K
    (try simp only[Act.put,yh])
    refine ai (i:=12) rfl (by kernel_rfl) λK f=>?_;refine aU rfl (.tmp 25) (.tmp 35) 27 rfl (z (A w)+1) 95 th (ZJ #[U ⟨#[]⟩,Y Z 0 0]) 2 40 ON l sm ph ur rfl (by decide) (Y M (B b) c5) (B b) (b.flatMap aZ) (by simp[Act.eval]) R.w.y (Q (z (A s)+1) 0 Z) 1 1 (aZ (⟨G,3,lsI (iZ t)⟩,z (A s),3)) (by simp[Act.eval]) rfl (λj u hu=>mC (qr) _ _ _ j u hu) (by simp[aZ,Value.oneCell']) (by unfold maxLen;omega) (by omega) (by have:=R.hi;have:=R.lt;omega) ?_;intro v' w7 D y _;obtain⟨a7,c7,rfl⟩:=aJ D;have S7:=ae (ZX w7 (λj l n9=>(y.p j (lj l AB.size) n9).k (AB.p j l)));obtain⟨c8,b8⟩:=R.addT (x:=⟨G,3,lsI (iZ t)⟩) (g:=z (A s)) (c:=3) (λr ZT e=>by have:=L.w.ltg r ZT;omega) OA D y;have X9:=ae c8;have B9:=ae b8;clear D y c8 b8;refine f _ _ (λ_=>S7) ?_;clear f K
    (try simp only[Act.put,yh])
    refine ai (i:=13) rfl (by kernel_rfl) λK f=>?_;go_simp;refine f _ _ (λ_=>S7) ?_;clear f K
    (try simp only[Act.put,yh])
    obtain⟨s7,t7⟩:=S7.i;have f7:ZV w7 (Q xb 1 Z)=ZA:=by simp[World.frozen?,s7]
    have l7:=aj s7;clear s7;refine ai (i:=14) rfl (by kernel_rfl) λK f=>?_;go_simp;refine f _ _ (λh=>absurd rfl h) ?_;clear f K
    (try simp only[Act.put,yh])
    refine ba (by kernel_rfl) ?_ _;have o:=HZ.i;subst o;go_wp2;have BB:=ae ((AB.P (show (z (A w))+1<=z (A ZR) by omega)).k B9.i)
    refine⟨⟨k+1,Y a7 (B b+1) c7,b++[((⟨G,3,lsI (iZ t)⟩,z (A s),3):TR)],by go_num,by omega,by rw[cM,HK.i];rfl,X9,G2.add (r:=(⟨G,3,lsI (iZ t)⟩,z (A s),3)) (by show 3<=300;omega) (Ag (by omega)),(λr ZT=>by
     rcases p8.1 ZT with ZT|ZT
     ·exact N2 r ZT
     ·rw[j4.1 ZT];exact⟨by show G.size<=5000;omega,rfl⟩),B3.k (BB.P (by omega))⟩,by simp[intOf];omega⟩
  ·obtain rfl:k=n:=by omega
   have kr:=H.res;have r0:wr.cell? (Q (z (A w)) 0 Z)=T (Y Z 0 0):=by simp[World.cell?,kr]
   have r1:wr.cell? (Q (z (A w)) 1 Z)=T (Y Z 0 0):=by simp[World.cell?,kr]
   have f0:ZV wr (Q (z (A w)) 0 Z)=ZA:=by simp[World.frozen?,kr]
   have f1:ZV wr (Q (z (A w)) 1 Z)=ZA:=by simp[World.frozen?,kr]
   have l0:=aj kr;clear kr;have BE:=ae ((B2.setCell (p:=(Q (z (A w)) 0 Z)) ly (Y ZY (B q) c2)).setCell (p:=(Q (z (A w)) 1 Z)) ly (Y M (B b) c5));have HE:=ae ((H.fin rfl rfl (by omega) (by omega) G2 (Y ZY (B q) c2) (Y M (B b) c5)).P (BV (z (A w))));have TE:=ae ((H.w.set (j:=0) (eL _) (Y ZY (B q) c2)).set (j:=1) (eL _) (Y M (B b) c5));go_wp2;exact bp (v:=ZJ #[Y ZY (B q) c2,Y M (B b) c5]) (by simp[results,results84,go_sem,r0,r1]) rfl ⟨_,_,_,_,_,_,_,rfl,HK,by omega,HE,TE,G2,N2,BE⟩
def xC (n:Nat)(hn:n<=200)(b:F_)(g:b.size<=5000)(w:E):Calls Tryz.prog 84 #[J I n,U b] w λe h=>DF w e h:=
 (kO n hn b g w).P λ_ _ ⟨a0,n0,c0,f0,a1,c1,i,h1,_,_,h2,_,_,_,f⟩=>⟨a0,n0,c0,f0,a1,B i,c1,_,h1,h2,f⟩
