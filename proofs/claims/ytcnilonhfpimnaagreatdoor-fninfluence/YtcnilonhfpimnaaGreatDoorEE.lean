import Derived.Test.YtcnilonhfpimnaaGreatDoorEA
import Derived.Test.YtcnilonhfpimnaaGreatDoorFS
set_option linter.all false
set_option maxRecDepth 100000
set_option maxHeartbeats 8000000
open Go renaming Addr.mk->T,Value.slice->Y,Value.string->U,Value.int->J,Value.agg->ZJ,Obj.cells->N,IntKind.i64->I,World->E,Ending.returned->ZI,World.heap->A,World.alloc->ZU,World.frozen?->ZV,Act.put->p_
open Option renaming none->Z,some->Q
open Bool renaming false->ZA
open Array renaming size->z
open List renaming length->B
namespace Go.Proofs.YtcnilonhfpimnaaGreatDoor.Vp
open Tryz RowKit Ca
def DF (w:E)(e:Ending)(b:E):Prop:=∃(a0:O_) (n0 c0:Nat) (f0:Nat->Source) (a1:O_) (n1 c1:Nat) (f1:Nat->Target),e=ZI (ZJ #[Y a0 n0 c0,Y a1 n1 c1])/\HSp (z (A w)) b a0 n0 f0 a1 n1 f1/\Below (z (A w)) w b
def Ak (b0 n0 c0 n1 c1:Nat)(a0:O_)(f0:Nat->Source)(a1:O_)(f1:Nat->Target)(less:Int)(w:E)(h0:0<=less)(h1:less<=1)(hH:HSp b0 w a0 n0 f0 a1 n1 f1):Calls Tryz.prog 34 #[ZJ #[Y a0 n0 c0,Y a1 n1 c1],J I less] w λe w'=>DF w e w':=by
 have hn0:=hH.hn0;have hn1:=hH.hn1;obtain⟨hs,ht⟩:=hH.sl w (Agr.refl _ _);have ZP:=ae hH.aq;have l:=ae hs;have HT:=ae ht;clear hs ht hH;obtain⟨X,m,n9,n8,bt⟩:=NO fw;obtain⟨W,ZT⟩:∃W:E,ZU (ZU w (N #[Y a0 n0 c0,Y a1 n1 c1] 29)) (N #[Y Z 0 0,Y Z 0 0] 29)=W:=⟨_,rfl⟩
 obtain⟨ZQ,-,-,hzA⟩:=nb2 ZT;have D:=ae ZT;clear ZT;have ZL:Hid (W.heap[z (A w)+1]?=Q (N #[Y Z 0 0,Y Z 0 0] 29 (0,0))):=by rw[<-D.i];have h2:=gM (ZU w (N #[Y a0 n0 c0,Y a1 n1 c1] 29)) (N #[Y Z 0 0,Y Z 0 0] 29);rw[show(z (A (ZU w (N #[Y a0 n0 c0,Y a1 n1 c1] 29))))=z (A w)+1 by simp] at h2;exact h2
 go_enter func34,ntmps34;go_wp2_with fail;rw[D.i];clear D;refine(fH a0 n0 c0 f0 a1 n1 c1 f1 ⟨#[]⟩ W (by omega) (by omega) (l.aa ZQ ly) (HT.aa ZQ ly) (λi hi=>by have:=(ZP i hi).1;unfold aP;omega)).P ?_;rintro e ZS⟨v0,V,RT,rfl,ZW,G,hM,ZX⟩;obtain⟨C,c2,rfl⟩:=aJ ZW;obtain⟨a3,c3,rfl⟩:=aJ G.u;have G1:=ae (yt hM ZP);have hl1:=qL hM;have fd:=gO f0 ⟨#[]⟩ n0;clear hM l HT ZP;generalize Qy f0 ⟨#[]⟩ n0=o at ZW fd ⊢;have hsz:=ZX.size;have X1:=ae (oD (rr:=z (A w)+1) (base:=z (A w)+2) ((ZX.p _ (by omega)).k ZL) (by omega) (by omega) (by omega) ZW G);have ZM:=ae ((ZQ.k (ZX.P (by omega))).alloc (by omega) (N #[Y C (B o) c2,Y a3 (B RT) c3] 29));clear ZW G ZX ZQ ZL;have hw2:IntKind.i64.wrap (200 - less)=200 - less:=by rw[nL];omega
 go_wp2_with fail;generalize World.alloc ZS _=W2 at X1 ZM ⊢;go_loopw [6] (λi wr=>∃(k:Nat) (V:Value) (b:List TR),i=J I k/\k<=B b/\(B b)<=300/\Hid (SpX (z (A w)+1) (z (A ZS)) (z (A w)+2) wr (Y C (B o) c2) V o b)/\Hid (GX b)/\Hid (Below (z (A w)) w wr)) (λi _=>400 - (intOf i).toNat);case atStart=>exact⟨0,_,RT,rfl,by omega,by omega,X1,G1,ZM⟩
 case round =>
  obtain⟨k,V,b,rfl,hk,ld,q,G2,B2⟩:=hrel;obtain⟨H,c5,rfl⟩:=aJ q.w.u;obtain⟨mv,ex⟩:=q.cells;have hxl:=q.lt;have hw1:IntKind.i64.wrap ((B o:Int)+B b)=(B o:Int)+B b:=by rw[nL];omega
  by_cases hlt:(B o:Int)+B b<200 - less
  ·have hwk:IntKind.i64.wrap ((k:Int)+1)=(k:Int)+1:=by rw[nL];omega
   go_wp2_with fail;clear mv ex;have y:=ae q.Qj;refine aI (BxT (Y C (B o) c2) (Y H (B b) c5) (z (A ZS))) 13 (by kernel_rfl) ?_;have l:=ae (y wr.drew (λj m _=>rfl));iterate 3
    refine aO 0 (v:=?_) rfl rfl (by kernel_rfl) (λ_ _ _ h=>h) rfl ?_ l ?_;rotate_left
    ·(rintro wz⟨s0,s1⟩;go_simp)
     (try with_reducible rfl)
    (try simp only[p_,z_])
   refine ai (i:=3) rfl (by kernel_rfl) λK f=>?_;go_simp;go_at_call 56;refine(iL k (by omega) _).P ?_;rintro e wl⟨lb,rfl,hlb,P⟩;have ZR:Hid (Below (z (A wr)) wr wl):=(BS wr).drew.k P;clear P l;have l:=ae (y wl (λj m _=>ZR.p j m));refine f _ _ (λ_=>l) ?_;clear f K
   (try simp only[p_,z_])
   refine fs (i:=4) (v:=U (⟨#[118]⟩++lb)) rfl (by kernel_rfl) (by kernel_rfl) (by kernel_rfl) (by kernel_rfl) (λ_ _ _ h=>h) rfl ?_ l ?_;{intro wz _;go_simp;omega}
   (try simp only[p_,z_])
   generalize (⟨#[118]⟩:F_)++lb=ZY;refine ai (i:=5) rfl (by kernel_rfl) λK f=>?_;go_simp;go_at_call 57;refine(bC _ _).P ?_;rintro e wm⟨rfl,O⟩;have M:=ae (ZR.k (O.P ZR.size));clear O l;have l:=ae (y wm (λj m _=>M.p j m));refine f _ _ (λ_=>l) ?_;clear f K
   (try simp only[p_,z_])
   refine ai (i:=6) rfl (by kernel_rfl) λK f=>?_;go_simp;go_at_call 58;refine(bq _ _).P ?_;rintro e n⟨rfl,ZO⟩;have ZN:=ae (M.k (ZO.P M.size));clear ZO l ZR M;have hzn:=ZN.size;have BI:=ae (ZN.alloc (by omega) (N #[J I 1,U ⟨#[107]⟩,J I 0,J I 15,U ⟨#[]⟩,J I 0] 102));have hxi:=q.hi;have OI:=ae (rN n (base:=z (A w)+2) (by omega));have l:=ae (y n (λj m _=>ZN.p j m));refine f _ _ (λ_=>l) ?_;clear f K l
   (try simp only[p_,z_])
   have l:=ae (y _ (λj m _=>BI.p j m));iterate 3
    refine bV 7 rfl rfl (by kernel_rfl) λK f=>?_;go_simp;refine f _ _ (λ_=>l) ?_;clear f K
    (try simp only[p_,z_])
   have ph:z (A (ZU n (N #[J I 1,U ⟨#[107]⟩,J I 0,J I 15,U ⟨#[]⟩,J I 0] 102)))=z (A n)+1:=by simp
   have AB:=ae (BI.alloc (by omega) (N #[U ZY,Y (Q (T (z (A n)) 0 Z)) 2 2] 86));refine ai (i:=10) rfl (by kernel_rfl) λK f=>?_;go_simp;have L:=ae (q.aa AB ly);have OA:=ae (J_ OI (br.alloc ly (N #[U ZY,Y (Q (T (z (A n)) 0 Z)) 2 2] 86)) ly);refine f _ _ (λ_=>y _ (λj m _=>AB.p j m)) ?_;clear f K
   (try simp only[p_,z_])
   refine ai (i:=11) rfl (by kernel_rfl) λK f=>?_;refine aU rfl (.tmp 22) (.tmp 31) 27 rfl (z (A w)+2) 86 X (ZJ #[U ⟨#[]⟩,Y Z 0 0]) 2 40 OJ m n9 n8 bt rfl (by decide) (Y H (B b) c5) (B b) (b.flatMap aZ) (by simp[Act.eval]) L.w.u (T (z (A n)+1) 0 Z) 1 1 (aZ (⟨ZY,2,lsI iy⟩,z (A n),2)) (by simp[Act.eval]) rfl (λj u hu=>mC (ph) _ _ _ j u hu) (by simp[aZ,Value.oneCell']) (by unfold maxLen;omega) (by omega) (by have:=L.hi;have:=L.lt;omega) ?_;intro v' w7 t s _;obtain⟨a7,c7,rfl⟩:=aJ t;have S:=ae (y w7 (λj m aq=>(s.p j (lj m AB.size) aq).k (AB.p j m)));obtain⟨c8,b8⟩:=L.addT (x:=⟨ZY,2,lsI iy⟩) (g:=z (A n)) (c:=2) (λr hr e=>by have:=q.w.ltg r hr;omega) OA t s;have X9:=ae c8;have B9:=ae b8;clear t s c8 b8;refine f _ _ (λ_=>S) ?_;clear f K
   (try simp only[p_,z_])
   refine ai (i:=12) rfl (by kernel_rfl) λK f=>?_;go_simp;refine f _ _ (λ_=>S) ?_;clear f K
   (try simp only[p_,z_])
   obtain⟨R,t7⟩:=S.i;have f7:ZV w7 (T (z (A ZS)) 1 Z)=ZA:=by simp[World.frozen?,R]
   have l7:=aj R;clear R;refine ai (i:=13) rfl (by kernel_rfl) λK f=>?_;go_simp;refine f _ _ (λh=>absurd rfl h) ?_;clear f K
   (try simp only[p_,z_])
   refine ba (by kernel_rfl) ?_ _;go_wp2;have BB:=ae ((AB.P (show (z (A w))+2<=z (A wr) by omega)).k B9.i);refine⟨⟨k+1,Y a7 (B b+1) c7,b++[((⟨ZY,2,lsI iy⟩,z (A n),2):TR)],by go_num,by rw[cM];exact Nat.succ_le_succ hk,by rw[cM];exact(by omega:B b+1<=300),X9,G2.add (r:=(⟨ZY,2,lsI iy⟩,z (A n),2)) (by show 2<=300;omega) pD,B2.k (BB.P (by omega))⟩,by simp[intOf];omega⟩
  ·have kr:=q.res;have r0:wr.cell? (T (z (A w)+1) 0 Z)=Q (Y Z 0 0):=by simp[World.cell?,kr]
   have r1:wr.cell? (T (z (A w)+1) 1 Z)=Q (Y Z 0 0):=by simp[World.cell?,kr]
   have f0:ZV wr (T (z (A w)+1) 0 Z)=ZA:=by simp[World.frozen?,kr]
   have f1:ZV wr (T (z (A w)+1) 1 Z)=ZA:=by simp[World.frozen?,kr]
   have l0:=aj kr;clear kr;have BE:=ae ((B2.setCell (p:=(T (z (A w)+1) 0 Z)) (BV _) (Y C (B o) c2)).setCell (p:=(T (z (A w)+1) 1 Z)) (BV _) (Y H (B b) c5));have HE:=ae ((q.fin rfl rfl (by omega) ld G2 (Y C (B o) c2) (Y H (B b) c5)).P (show (z (A w))<=z (A w)+2 by omega));go_wp2;exact bp (v:=ZJ #[Y C (B o) c2,Y H (B b) c5]) (by simp[results,results34,go_sem,r0,r1]) rfl ⟨_,_,_,_,_,_,_,_,rfl,HE,BE⟩
def DFn (n:Nat)(w:E)(e:Ending)(f:E):Prop:=∃(a0:O_) (n0 c0:Nat) (f0:Nat->Source) (a1:O_) (c1:Nat) (b:List TR),e=ZI (ZJ #[Y a0 n0 c0,Y a1 (B b) c1])/\(B b)=n/\n0<=250/\HSp (z (A w)) f a0 n0 f0 a1 (B b) (aW (b.map (·.1)))/\TRow f (z (A w)+1) (Y a1 (B b) c1) b/\GX b/\(∀r∈b,r.1.e.size<=5000/\r.1.h=3)/\Below (z (A w)) w f
def kO (n:Nat)(hn:n<=200)(en:F_)(he:en.size<=5000)(w:E):Calls Tryz.prog 69 #[J I n,U en] w λe w'=>DFn n w e w':=by
 obtain⟨ld,l,qr,ph,n8⟩:=NO fw;have ZM:z (A (ZU w (N #[Y Z 0 0,Y Z 0 0] 29)))=z (A w)+1:=by simp
 have ZP:z (A (ZU (ZU w (N #[Y Z 0 0,Y Z 0 0] 29)) (N #[U ⟨#[97]⟩,U ⟨#[103,114,111,117,110,100]⟩] 82)))=z (A w)+1+1:=by simp
 obtain⟨W2,H⟩:∃W:E,ZU (ZU (ZU w (N #[Y Z 0 0,Y Z 0 0] 29)) (N #[U ⟨#[97]⟩,U ⟨#[103,114,111,117,110,100]⟩] 82)) (N #[Y (Q (T (z (A w)+1) 0 Z)) 1 1,Y Z 0 0] 29)=W:=⟨_,rfl⟩
 obtain⟨A0,-,-,-,-⟩:=nb3 H;have ZS:=ae H;clear H;have X1:Hid (SpX (z (A w)) (z (A w)+1+1) (z (A w)+1) W2 (Y (Q (T (z (A w)+1) 0 Z)) 1 1) (Y Z 0 0) [⟨⟨#[97]⟩,⟨#[103,114,111,117,110,100]⟩⟩] []):=by rw[<-ZS.i];have k1:=gM w (N #[Y Z 0 0,Y Z 0 0] 29);have k2:=gM (ZU w (N #[Y Z 0 0,Y Z 0 0] 29)) (N #[U ⟨#[97]⟩,U ⟨#[103,114,111,117,110,100]⟩] 82);rw[ZM] at k2;have BQ:=(a8 (z (A w)+1) (ZU w (N #[Y Z 0 0,Y Z 0 0] 29))).alloc (by omega) (N #[U ⟨#[97]⟩,U ⟨#[103,114,111,117,110,100]⟩] 82);have h:=oD (LS:=[⟨⟨#[97]⟩,⟨#[103,114,111,117,110,100]⟩⟩]) (base:=z (A w)+1) (base':=z (A w)+1) ((BQ.p (z (A w)) (eL _)).k k1) (eL _) ly (by omega) (v0:=Y (Q (T (z (A w)+1) 0 Z)) 1 1) ⟨rfl,.inr ⟨z (A w)+1,1,_,rfl,p7 _,k2,p7 _,by unfold maxLen;omega,rfl,rfl⟩⟩ (dq _ _);rw[ZP] at h;exact h
 have hw2:IntKind.i64.wrap ((n:Int) - 1)=(n:Int) - 1:=by rw[nL];omega
 clear ZM ZP;go_enter func69,ntmps69;go_wp2_with fail;rw[ZS.i];clear ZS;obtain⟨q,ZY,c2,hLS,fd⟩:∃(q:List Source) (ZY:O_) (c2:Nat),B q<=250/\Hid (SpX (z (A w)) (z (A w)+1+1) (z (A w)+1) W2 (Y ZY (B q) c2) (Y Z 0 0) q []):=⟨[⟨⟨#[97]⟩,⟨#[103,114,111,117,110,100]⟩⟩],Q (T (z (A w)+1) 0 Z),1,by show 1<=250;omega,X1⟩
 clear X1;generalize ro:z (A w)+1+1=xb at fd ⊢;clear ro;go_loopw [6] (λi wr=>∃(k:Nat) (v1:Value) (b:List TR),i=J I k/\k<=n/\(B b)=k/\Hid (SpX (z (A w)) xb (z (A w)+1) wr (Y ZY (B q) c2) v1 q b)/\Hid (GX b)/\Hid (∀r∈b,r.1.e.size<=5000/\r.1.h=3)/\Hid (Below (z (A w)) w wr)) (λi _=>n - (intOf i).toNat);case atStart=>exact⟨0,_,[],rfl,by omega,rfl,fd,λ_ h=>absurd h nj,λ_ h=>absurd h nj,A0⟩
 case round =>
  obtain⟨k,v1,b,rfl,hk,aq,D,G2,N2,B2⟩:=hrel;have HK:Hid (B b=k):=aq;obtain⟨L,c5,rfl⟩:=aJ D.w.u;obtain⟨ZL,V⟩:=D.cells;have n9:=D.lt;have hrn:B b<=200:=by omega
  clear aq;by_cases hlt:k<n
  ·have hwk:IntKind.i64.wrap ((k:Int)+1)=(k:Int)+1:=by rw[nL];omega
   go_wp2_with fail;refine(iL (k+1) (by omega) _).P ?_;rintro e M⟨nb,rfl,hnb,O⟩;have ZR:=ae (D.aa O ly);have B3:=ae (B2.k (O.P B2.size));obtain⟨ZL,V⟩:=ZR.cells;have n9:=ZR.lt;clear O;by_cases ex:(n:Int) - 1=(k:Int)
   case' pos =>
    go_wp2_with fail;obtain⟨t,o⟩:∃ZW,ZW=en:=⟨_,rfl⟩
    have th:t.size<=5000:=by rw[o];omega
   case' neg =>
    have sm:¬ (k:Int)=(n:Int) - 1:=λe=>ex e.c;clear ex;go_wp2_with fail;clear sm;obtain⟨t,o⟩:∃ZW,ZW=nb:=⟨_,rfl⟩
    have th:t.size<=5000:=by rw[o];omega
   all_goals
    rw[<-o];have HZ:=ae o;clear o;clear ZL V;have ZX:=ae ZR.Qj;refine aI (BxT (Y ZY (B q) c2) (Y L (B b) c5) xb) 14 (by kernel_rfl) ?_;have m:=ae (ZX M.drew (λj l _=>rfl))
    iterate 3
     refine aO 0 (v:=?_) rfl rfl (by kernel_rfl) (λ_ _ _ h=>h) rfl ?_ m ?_;rotate_left
     ·(rintro wz⟨s0,s1⟩;go_simp)
      (try with_reducible rfl)
     (try simp only[p_,z_])
    refine aO 4 (v:=?_) rfl rfl (by kernel_rfl) (λ_ _ _ h=>h) rfl ?_ m ?_;rotate_left
    ·(rintro wz⟨s0,s1⟩;go_simp)
     (try with_reducible rfl)
    (try simp only[p_,z_])
    refine ai (i:=3) rfl (by kernel_rfl) λK f=>?_;go_simp;go_at_call 56;refine(iL k (by omega) _).P ?_;rintro e wl⟨C,rfl,htn,X⟩;have ZO:Hid (Below (z (A M)) M wl):=(BS M).drew.k X;clear X m;have m:=ae (ZX wl (λj l _=>ZO.p j l));refine f _ _ (λ_=>m) ?_;clear f K
    (try simp only[p_,z_])
    refine ai (i:=5) rfl (by kernel_rfl) λK f=>?_;go_simp;go_at_call 57;refine(bC _ _).P ?_;rintro e wm⟨rfl,ZN⟩;have S:=ae (ZO.k (ZN.P ZO.size));clear ZN m;have m:=ae (ZX wm (λj l _=>S.p j l));refine f _ _ (λ_=>m) ?_;clear f K
    (try simp only[p_,z_])
    refine ai (i:=6) rfl (by kernel_rfl) λK f=>?_;go_simp;go_at_call 58;refine(bq _ _).P ?_;rintro e wo⟨rfl,bt⟩;have P:=ae (S.k (bt.P S.size));clear bt m;have m:=ae (ZX wo (λj l _=>P.p j l));refine f _ _ (λ_=>m) ?_;clear f K
    (try simp only[p_,z_])
    refine ai (i:=7) rfl (by kernel_rfl) λK f=>?_;go_simp;go_at_call 58;refine(bq _ _).P ?_;rintro e s⟨rfl,la⟩;have BN:=ae (P.k (la.P P.size));clear la m ZO S P;have hzn:=BN.size;have BI:=ae (BN.alloc (by omega) (N #[J I 1,U t,J I 0,J I 12,U ⟨#[]⟩,J I 0,J I 15,U ⟨#[]⟩,J I 0] 102));have hxi:=ZR.hi;have OI:=ae (Cv s t (base:=z (A w)+1) (by omega));have m:=ae (ZX s (λj l _=>BN.p j l));refine f _ _ (λ_=>m) ?_;clear f K m
    (try simp only[p_,z_])
    have m:=ae (ZX _ (λj l _=>BI.p j l))
    iterate 3
     refine bV 8 rfl rfl (by kernel_rfl) λK f=>?_;go_simp;refine f _ _ (λ_=>m) ?_;clear f K
     (try simp only[p_,z_])
    have ur:z (A (ZU s (N #[J I 1,U t,J I 0,J I 12,U ⟨#[]⟩,J I 0,J I 15,U ⟨#[]⟩,J I 0] 102)))=z (A s)+1:=by simp
    have AB:=ae (BI.alloc (by omega) (N #[U C,Y (Q (T (z (A s)) 0 Z)) 3 3] 86));refine ai (i:=11) rfl (by kernel_rfl) λK f=>?_;go_simp;have R:=ae (ZR.aa AB ly);have OA:=ae (J_ OI (br.alloc ly (N #[U C,Y (Q (T (z (A s)) 0 Z)) 3 3] 86)) ly);refine f _ _ (λ_=>ZX _ (λj l _=>AB.p j l)) ?_;clear f K
    (try simp only[p_,z_])
    refine ai (i:=12) rfl (by kernel_rfl) λK f=>?_;refine aU rfl (.tmp 25) (.tmp 35) 27 rfl (z (A w)+1) 86 ld (ZJ #[U ⟨#[]⟩,Y Z 0 0]) 2 40 OJ l qr ph n8 rfl (by decide) (Y L (B b) c5) (B b) (b.flatMap aZ) (by simp[Act.eval]) R.w.u (T (z (A s)+1) 0 Z) 1 1 (aZ (⟨C,3,lsI (iZ t)⟩,z (A s),3)) (by simp[Act.eval]) rfl (λj u hu=>mC (ur) _ _ _ j u hu) (by simp[aZ,Value.oneCell']) (by unfold maxLen;omega) (by omega) (by have:=R.hi;have:=R.lt;omega) ?_;intro v' w7 ZT y _;obtain⟨a7,c7,rfl⟩:=aJ ZT;have S7:=ae (ZX w7 (λj l mv=>(y.p j (lj l AB.size) mv).k (AB.p j l)));obtain⟨c8,b8⟩:=R.addT (x:=⟨C,3,lsI (iZ t)⟩) (g:=z (A s)) (c:=3) (λr G e=>by have:=ZR.w.ltg r G;omega) OA ZT y;have X9:=ae c8;have B9:=ae b8;clear ZT y c8 b8;refine f _ _ (λ_=>S7) ?_;clear f K
    (try simp only[p_,z_])
    refine ai (i:=13) rfl (by kernel_rfl) λK f=>?_;go_simp;refine f _ _ (λ_=>S7) ?_;clear f K
    (try simp only[p_,z_])
    obtain⟨s7,t7⟩:=S7.i;have f7:ZV w7 (T xb 1 Z)=ZA:=by simp[World.frozen?,s7]
    have l7:=aj s7;clear s7;refine ai (i:=14) rfl (by kernel_rfl) λK f=>?_;go_simp;refine f _ _ (λh=>absurd rfl h) ?_;clear f K
    (try simp only[p_,z_])
    refine ba (by kernel_rfl) ?_ _;have o:=HZ.i;subst o;go_wp2;have BB:=ae ((AB.P (show (z (A w))+1<=z (A M) by omega)).k B9.i)
    refine⟨⟨k+1,Y a7 (B b+1) c7,b++[((⟨C,3,lsI (iZ t)⟩,z (A s),3):TR)],by go_num,by omega,by rw[cM,HK.i];rfl,X9,G2.add (r:=(⟨C,3,lsI (iZ t)⟩,z (A s),3)) (by show 3<=300;omega) (Ag (by omega)),(λr G=>by
     rcases p8.1 G with G|G
     ·exact N2 r G
     ·rw[j4.1 G];exact⟨by show C.size<=5000;omega,rfl⟩),B3.k (BB.P (by omega))⟩,by simp[intOf];omega⟩
  ·obtain rfl:k=n:=by omega
   have kr:=D.res;have r0:wr.cell? (T (z (A w)) 0 Z)=Q (Y Z 0 0):=by simp[World.cell?,kr]
   have r1:wr.cell? (T (z (A w)) 1 Z)=Q (Y Z 0 0):=by simp[World.cell?,kr]
   have f0:ZV wr (T (z (A w)) 0 Z)=ZA:=by simp[World.frozen?,kr]
   have f1:ZV wr (T (z (A w)) 1 Z)=ZA:=by simp[World.frozen?,kr]
   have l0:=aj kr;clear kr;have BE:=ae ((B2.setCell (p:=(T (z (A w)) 0 Z)) ly (Y ZY (B q) c2)).setCell (p:=(T (z (A w)) 1 Z)) ly (Y L (B b) c5));have HE:=ae ((D.fin rfl rfl (by omega) (by omega) G2 (Y ZY (B q) c2) (Y L (B b) c5)).P (BV (z (A w))));have TE:=ae ((D.w.set (j:=0) (eL _) (Y ZY (B q) c2)).set (j:=1) (eL _) (Y L (B b) c5));go_wp2;exact bp (v:=ZJ #[Y ZY (B q) c2,Y L (B b) c5]) (by simp[results,results69,go_sem,r0,r1]) rfl ⟨_,_,_,_,_,_,_,rfl,HK,by omega,HE,TE,G2,N2,BE⟩
def xC (n:Nat)(hn:n<=200)(b:F_)(f:b.size<=5000)(w:E):Calls Tryz.prog 69 #[J I n,U b] w λe h=>DF w e h:=
 (kO n hn b f w).P λ_ _ ⟨a0,n0,c0,f0,a1,c1,i,h1,_,_,h2,_,_,_,g⟩=>⟨a0,n0,c0,f0,a1,B i,c1,_,h1,h2,g⟩
