import Derived.Test.YtpmnbjkjpnclaaaGreatDoorLY
import Derived.Test.YtpmnbjkjpnclaaaGreatDoorLP
set_option maxRecDepth 100000
set_option maxHeartbeats 8000000
open Go renaming Addr.mk->N,Value.slice->Y,Value.string->U,Value.int->Q,Value.agg->ZG,Obj.cells->J,IntKind.i64->I,World->M,World.heap->A
open Option renaming none->Z,some->T
open Bool renaming false->ZA
open Array renaming size->z
namespace Go.Proofs.YtpmnbjkjpnclaaaGreatDoor.Vp
open Tryz RowKit Ca
def DFn (n:Nat)(w:M)(e:Ending)(f:M):Prop:=∃(a0:Option Addr) (n0 c0:Nat) (f0:Nat->Source) (a1:Option Addr) (c1:Nat) (b:List TR),e=.returned (ZG #[Y a0 n0 c0,Y a1 b.length c1])/\b.length=n/\n0<=250/\HSp (z (A w)) f a0 n0 f0 a1 b.length (bD (b.map (·.1)))/\TRow f (z (A w)+1) (Y a1 b.length c1) b/\GX b/\(∀r∈b,r.1.e.size<=5000/\r.1.m=3)/\Below (z (A w)) w f
theorem uy (n:Nat)(hn:n<=200)(en:ByteArray)(he:en.size<=5000)(w:M):Calls Tryz.prog 144 #[Q I n,U en] w λe w'=>DFn n w e w':=by
 obtain⟨n8,l,ro,th,sm⟩:=JT fJ;have X:(w.alloc (J #[Y Z 0 0,Y Z 0 0] 27)).heap.size=z (A w)+1:=by simp
 have fd:((w.alloc (J #[Y Z 0 0,Y Z 0 0] 27)).alloc (J #[U ⟨#[97]⟩,U ⟨#[103,114,111,117,110,100]⟩] 142)).heap.size=z (A w)+1+1:=by simp
 obtain⟨W2,H⟩:∃W:M,((w.alloc (J #[Y Z 0 0,Y Z 0 0] 27)).alloc (J #[U ⟨#[97]⟩,U ⟨#[103,114,111,117,110,100]⟩] 142)).alloc (J #[Y (T (N (z (A w)+1) 0 Z)) 1 1,Y Z 0 0] 27)=W:=⟨_,rfl⟩
 obtain⟨A0,-,-,-,-⟩:=nb3 H;have D:=ae H;clear H;have X1:Hid (SpX (z (A w)) (z (A w)+1+1) (z (A w)+1) W2 (Y (T (N (z (A w)+1) 0 Z)) 1 1) (Y Z 0 0) [⟨⟨#[97]⟩,⟨#[103,114,111,117,110,100]⟩⟩] []):=by rw[<-D.out];have k1:=gM w (J #[Y Z 0 0,Y Z 0 0] 27);have k2:=gM (w.alloc (J #[Y Z 0 0,Y Z 0 0] 27)) (J #[U ⟨#[97]⟩,U ⟨#[103,114,111,117,110,100]⟩] 142);rw[X] at k2;have BQ:=(cM (z (A w)+1) (w.alloc (J #[Y Z 0 0,Y Z 0 0] 27))).alloc (by omega) (J #[U ⟨#[97]⟩,U ⟨#[103,114,111,117,110,100]⟩] 142);have h:=vj (LS:=[⟨⟨#[97]⟩,⟨#[103,114,111,117,110,100]⟩⟩]) (base:=z (A w)+1) (base':=z (A w)+1) ((BQ.block (z (A w)) (AD _)).trans k1) (AD _) ly (by omega) (v0:=Y (T (N (z (A w)+1) 0 Z)) 1 1) ⟨rfl,.inr ⟨z (A w)+1,1,_,rfl,nX _,k2,nX _,by unfold maxLen;omega,rfl,rfl⟩⟩ (cP _ _);rw[fd] at h;exact h
 have hw2:IntKind.i64.wrap ((n:Int) - 1)=(n:Int) - 1:=by rw[AI];omega
 clear X fd;go_enter func144,ntmps144;go_wp2_with fail;rw[D.out];clear D;obtain⟨q,ZS,c2,hLS,mv⟩:∃(q:List Source) (ZS:Option Addr) (c2:Nat),q.length<=250/\Hid (SpX (z (A w)) (z (A w)+1+1) (z (A w)+1) W2 (Y ZS q.length c2) (Y Z 0 0) q []):=⟨[⟨⟨#[97]⟩,⟨#[103,114,111,117,110,100]⟩⟩],T (N (z (A w)+1) 0 Z),1,by show 1<=250;omega,X1⟩
 clear X1;generalize n9:z (A w)+1+1=xb at mv ⊢;clear n9;go_loopw [6] (λi wr=>∃(k:Nat) (v1:Value) (f:List TR),i=Q I k/\k<=n/\f.length=k/\Hid (SpX (z (A w)) xb (z (A w)+1) wr (Y ZS q.length c2) v1 q f)/\Hid (GX f)/\Hid (∀r∈f,r.1.e.size<=5000/\r.1.m=3)/\Hid (Below (z (A w)) w wr)) (λi _=>n - (intOf i).toNat);case atStart=>exact⟨0,_,[],rfl,by omega,rfl,mv,λ_ h=>absurd h nj,λ_ h=>absurd h nj,A0⟩
 case round =>
  obtain⟨k,v1,f,rfl,hk,aq,G,G2,N2,B2⟩:=hrel;have HK:Hid (f.length=k):=aq;obtain⟨L,c5,rfl⟩:=aL G.j.x;obtain⟨ZK,V⟩:=G.cells;have ph:=G.lt;have hrn:f.length<=200:=by omega
  clear aq;by_cases hlt:k<n
  ·have hwk:IntKind.i64.wrap ((k:Int)+1)=(k:Int)+1:=by rw[AI];omega
   go_wp2_with fail;refine(jn (k+1) (by omega) _).mono ?_;rintro e ZQ ⟨nb,rfl,hnb,P⟩;have ZO:=ae (G.aa P ly);have B3:=ae (B2.trans (P.mono B2.size));obtain⟨ZK,V⟩:=ZO.cells;have ph:=ZO.lt;clear P;by_cases ex:(n:Int) - 1=(k:Int)
   case' pos =>
    go_wp2_with fail;obtain⟨t,o⟩:∃ZR,ZR=en:=⟨_,rfl⟩
    have Bk:t.size<=5000:=by rw[o];omega
   case' neg =>
    have At:¬ (k:Int)=(n:Int) - 1:=λe=>ex e.symm;clear ex;go_wp2_with fail;clear At;obtain⟨t,o⟩:∃ZR,ZR=nb:=⟨_,rfl⟩
    have Bk:t.size<=5000:=by rw[o];omega
   all_goals
    rw[<-o];have HZ:=ae o;clear o;clear ZK V;have B:=ae ZO.keepT;refine aD (BxT (Y ZS q.length c2) (Y L f.length c5) xb) 14 (by kernel_rfl) ?_;have m:=ae (B ZQ.drew (λj l _=>rfl))
    iterate 3
     refine aH 0 (v:=?_) rfl rfl (by kernel_rfl) (λ_ _ _ h=>h) rfl ?_ m ?_;rotate_left
     ·(rintro wz ⟨s0,s1⟩;go_simp)
      (try with_reducible rfl)
     (try simp only[Act.put,nzL])
    refine aH 4 (v:=?_) rfl rfl (by kernel_rfl) (λ_ _ _ h=>h) rfl ?_ m ?_;rotate_left
    ·(rintro wz ⟨s0,s1⟩;go_simp)
     (try with_reducible rfl)
    (try simp only[Act.put,nzL])
    refine ai (i:=3) rfl (by kernel_rfl) λK b=>?_;go_simp;go_at_call 97;refine(jn k (by omega) _).mono ?_;rintro e wl ⟨ZP,rfl,htn,ld⟩;have ZL:Hid (Below (z (A ZQ)) ZQ wl):=(BS ZQ).drew.trans ld;clear ld m;have m:=ae (B wl (λj l _=>ZL.block j l));refine b _ _ (λ_=>m) ?_;clear b K
    (try simp only[Act.put,nzL])
    refine ai (i:=5) rfl (by kernel_rfl) λK b=>?_;go_simp;go_at_call 98;refine(bj _ _).mono ?_;rintro e wm ⟨rfl,bt⟩;have S:=ae (ZL.trans (bt.mono ZL.size));clear bt m;have m:=ae (B wm (λj l _=>S.block j l));refine b _ _ (λ_=>m) ?_;clear b K
    (try simp only[Act.put,nzL])
    refine ai (i:=6) rfl (by kernel_rfl) λK b=>?_;go_simp;go_at_call 99;refine(ba _ _).mono ?_;rintro e wo ⟨rfl,ZI⟩;have ZN:=ae (S.trans (ZI.mono S.size));clear ZI m;have m:=ae (B wo (λj l _=>ZN.block j l));refine b _ _ (λ_=>m) ?_;clear b K
    (try simp only[Act.put,nzL])
    refine ai (i:=7) rfl (by kernel_rfl) λK b=>?_;go_simp;go_at_call 99;refine(ba _ _).mono ?_;rintro e s ⟨rfl,ZJ⟩;have BN:=ae (ZN.trans (ZJ.mono ZN.size));clear ZJ m ZL S ZN;have hzn:=BN.size;have BI:=ae (BN.alloc (by omega) (J #[Q I 1,U t,Q I 0,Q I 12,U ⟨#[]⟩,Q I 0,Q I 15,U ⟨#[]⟩,Q I 0] 151));have hxi:=ZO.hi;have OI:=ae (yH s t (base:=z (A w)+1) (by omega));have m:=ae (B s (λj l _=>BN.block j l));refine b _ _ (λ_=>m) ?_;clear b K m
    (try simp only[Act.put,nzL])
    have m:=ae (B _ (λj l _=>BI.block j l))
    iterate 3
     refine bH 8 rfl rfl (by kernel_rfl) λK b=>?_;go_simp;refine b _ _ (λ_=>m) ?_;clear b K
     (try simp only[Act.put,nzL])
    have ur:(s.alloc (J #[Q I 1,U t,Q I 0,Q I 12,U ⟨#[]⟩,Q I 0,Q I 15,U ⟨#[]⟩,Q I 0] 151)).heap.size=z (A s)+1:=by simp
    have O:=ae (BI.alloc (by omega) (J #[U ZP,Y (T (N (z (A s)) 0 Z)) 3 3] 146));refine ai (i:=11) rfl (by kernel_rfl) λK b=>?_;go_simp;have R:=ae (ZO.aa O ly);have OA:=ae (own_below OI (br.alloc ly (J #[U ZP,Y (T (N (z (A s)) 0 Z)) 3 3] 146)) ly);refine b _ _ (λ_=>B _ (λj l _=>O.block j l)) ?_;clear b K
    (try simp only[Act.put,nzL])
    refine ai (i:=12) rfl (by kernel_rfl) λK b=>?_;refine aW rfl (.tmp 25) (.tmp 35) 25 rfl (z (A w)+1) 146 n8 (ZG #[U ⟨#[]⟩,Y Z 0 0]) 2 40 J9 l ro th sm rfl (by decide) (Y L f.length c5) f.length (f.flatMap aS) (by simp[Act.eval]) R.j.x (N (z (A s)+1) 0 Z) 1 1 (aS (⟨ZP,3,lsI (gP t)⟩,z (A s),3)) (by simp[Act.eval]) rfl (λj u hu=>nu (ur) _ _ _ j u hu) (by simp[aS,Value.oneCell']) (by unfold maxLen;omega) (by omega) (by have:=R.hi;have:=R.lt;omega) ?_;intro v' w7 E y _;obtain⟨a7,c7,rfl⟩:=aL E;have S7:=ae (B w7 (λj l qr=>(y.block j (lj l O.size) qr).trans (O.block j l)));obtain⟨c8,b8⟩:=R.addT (x:=⟨ZP,3,lsI (gP t)⟩) (g:=z (A s)) (c:=3) (λr C e=>by have:=ZO.j.ltg r C;omega) OA E y;have X9:=ae c8;have B9:=ae b8;clear E y c8 b8;refine b _ _ (λ_=>S7) ?_;clear b K
    (try simp only[Act.put,nzL])
    refine ai (i:=13) rfl (by kernel_rfl) λK b=>?_;go_simp;refine b _ _ (λ_=>S7) ?_;clear b K
    (try simp only[Act.put,nzL])
    obtain⟨s7,t7⟩:=S7.out;have f7:w7.frozen? (N xb 1 Z)=ZA:=by simp[World.frozen?,s7]
    have l7:=ar s7;clear s7;refine ai (i:=14) rfl (by kernel_rfl) λK b=>?_;go_simp;refine b _ _ (λh=>absurd rfl h) ?_;clear b K
    (try simp only[Act.put,nzL])
    refine aT (by kernel_rfl) ?_ _;have o:=HZ.out;subst o;go_wp2;have BB:=ae ((O.mono (show (z (A w))+1<=z (A ZQ) by omega)).trans B9.out)
    refine⟨⟨k+1,Y a7 (f.length+1) c7,f++[((⟨ZP,3,lsI (gP t)⟩,z (A s),3):TR)],by go_num,by omega,by rw[eL,HK.out];rfl,X9,G2.add (r:=(⟨ZP,3,lsI (gP t)⟩,z (A s),3)) (by show 3<=300;omega) (xf (by omega)),(λr C=>by
     rcases BC.1 C with C|C
     ·exact N2 r C
     ·rw[hU.1 C];exact⟨by show ZP.size<=5000;omega,rfl⟩),B3.trans (BB.mono (by omega))⟩,by simp[intOf];omega⟩
  ·obtain rfl:k=n:=by omega
   have kr:=G.res;have r0:wr.cell? (N (z (A w)) 0 Z)=T (Y Z 0 0):=by simp[World.cell?,kr]
   have r1:wr.cell? (N (z (A w)) 1 Z)=T (Y Z 0 0):=by simp[World.cell?,kr]
   have f0:wr.frozen? (N (z (A w)) 0 Z)=ZA:=by simp[World.frozen?,kr]
   have f1:wr.frozen? (N (z (A w)) 1 Z)=ZA:=by simp[World.frozen?,kr]
   have l0:=ar kr;clear kr;have BE:=ae ((B2.setCell (p:=(N (z (A w)) 0 Z)) ly (Y ZS q.length c2)).setCell (p:=(N (z (A w)) 1 Z)) ly (Y L f.length c5));have HE:=ae ((G.fin rfl rfl (by omega) (by omega) G2 (Y ZS q.length c2) (Y L f.length c5)).mono (JH (z (A w))));have TE:=ae ((G.j.set (j:=0) (AD _) (Y ZS q.length c2)).set (j:=1) (AD _) (Y L f.length c5));go_wp2;exact bp (v:=ZG #[Y ZS q.length c2,Y L f.length c5]) (by simp[results,results144,go_sem,r0,r1]) rfl ⟨_,_,_,_,_,_,_,rfl,HK,by omega,HE,TE,G2,N2,BE⟩
