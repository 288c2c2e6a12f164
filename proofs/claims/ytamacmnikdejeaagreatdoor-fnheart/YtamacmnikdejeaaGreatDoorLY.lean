import Derived.Test.YtamacmnikdejeaaGreatDoorLU
import Derived.Test.YtamacmnikdejeaaGreatDoorMA
set_option maxRecDepth 100000
set_option maxHeartbeats 8000000
open Go renaming Addr.mk->Q,Value.slice->Y,Value.string->U,Value.int->J,Value.agg->ZG,Obj.cells->N,IntKind.i64->I,World->E,Ending.returned->ZF,World.heap->A
open Option renaming none->Z,some->T
open Bool renaming false->ZA
open Array renaming size->z
namespace Go.Proofs.YtamacmnikdejeaaGreatDoor.Vp
open Tryz RowKit Ca
def DF (w:E)(e:Ending)(b:E):Prop:=∃(a0:Option Addr) (n0 c0:Nat) (f0:Nat->Source) (a1:Option Addr) (n1 c1:Nat) (f1:Nat->Target),e=ZF (ZG #[Y a0 n0 c0,Y a1 n1 c1])/\HSp (z (A w)) b a0 n0 f0 a1 n1 f1/\Below (z (A w)) w b
def DFn (n:Nat)(w:E)(e:Ending)(f:E):Prop:=∃(a0:Option Addr) (n0 c0:Nat) (f0:Nat->Source) (a1:Option Addr) (c1:Nat) (b:List TR),e=ZF (ZG #[Y a0 n0 c0,Y a1 b.length c1])/\b.length=n/\n0<=250/\HSp (z (A w)) f a0 n0 f0 a1 b.length (bK (b.map (·.1)))/\TRow f (z (A w)+1) (Y a1 b.length c1) b/\GX b/\(∀r∈b,r.1.e.size<=5000/\r.1.h=3)/\Below (z (A w)) w f
theorem nT (n:Nat)(hn:n<=200)(en:ByteArray)(he:en.size<=5000)(w:E):Calls Tryz.prog 95 #[J I n,U en] w λe w'=>DFn n w e w':=by
 obtain⟨ld,m,qr,n6,n8⟩:=KZ fA;have bt:(w.alloc (N #[Y Z 0 0,Y Z 0 0] 29)).heap.size=z (A w)+1:=by simp
 have ZI:((w.alloc (N #[Y Z 0 0,Y Z 0 0] 29)).alloc (N #[U ⟨#[97]⟩,U ⟨#[103,114,111,117,110,100]⟩] 121)).heap.size=z (A w)+1+1:=by simp
 obtain⟨W2,D⟩:∃W:E,((w.alloc (N #[Y Z 0 0,Y Z 0 0] 29)).alloc (N #[U ⟨#[97]⟩,U ⟨#[103,114,111,117,110,100]⟩] 121)).alloc (N #[Y (T (Q (z (A w)+1) 0 Z)) 1 1,Y Z 0 0] 29)=W:=⟨_,rfl⟩
 obtain⟨A0,-,-,-,-⟩:=nb3 D;have ZQ:=ae D;clear D;have X1:Hid (SpX (z (A w)) (z (A w)+1+1) (z (A w)+1) W2 (Y (T (Q (z (A w)+1) 0 Z)) 1 1) (Y Z 0 0) [⟨⟨#[97]⟩,⟨#[103,114,111,117,110,100]⟩⟩] []):=by rw[<-ZQ.out];have k1:=gM w (N #[Y Z 0 0,Y Z 0 0] 29);have k2:=gM (w.alloc (N #[Y Z 0 0,Y Z 0 0] 29)) (N #[U ⟨#[97]⟩,U ⟨#[103,114,111,117,110,100]⟩] 121);rw[bt] at k2;have BQ:=(cM (z (A w)+1) (w.alloc (N #[Y Z 0 0,Y Z 0 0] 29))).alloc (by omega) (N #[U ⟨#[97]⟩,U ⟨#[103,114,111,117,110,100]⟩] 121);have h:=qM (LS:=[⟨⟨#[97]⟩,⟨#[103,114,111,117,110,100]⟩⟩]) (base:=z (A w)+1) (base':=z (A w)+1) ((BQ.block (z (A w)) (j4 _)).trans k1) (j4 _) ly (by omega) (v0:=Y (T (Q (z (A w)+1) 0 Z)) 1 1) ⟨rfl,.inr ⟨z (A w)+1,1,_,rfl,nX _,k2,nX _,by unfold maxLen;omega,rfl,rfl⟩⟩ (da _ _);rw[ZI] at h;exact h
 have hw2:IntKind.i64.wrap ((n:Int) - 1)=(n:Int) - 1:=by rw[p9];omega
 clear bt ZI;go_enter func95,ntmps95;go_wp2_with fail;rw[ZQ.out];clear ZQ;obtain⟨q,ZS,c2,hLS,fd⟩:∃(q:List Source) (ZS:Option Addr) (c2:Nat),q.length<=250/\Hid (SpX (z (A w)) (z (A w)+1+1) (z (A w)+1) W2 (Y ZS q.length c2) (Y Z 0 0) q []):=⟨[⟨⟨#[97]⟩,⟨#[103,114,111,117,110,100]⟩⟩],T (Q (z (A w)+1) 0 Z),1,by show 1<=250;omega,X1⟩
 clear X1;generalize n7:z (A w)+1+1=xb at fd ⊢;clear n7;go_loopw [6] (λi wr=>∃(k:Nat) (v1:Value) (f:List TR),i=J I k/\k<=n/\f.length=k/\Hid (SpX (z (A w)) xb (z (A w)+1) wr (Y ZS q.length c2) v1 q f)/\Hid (GX f)/\Hid (∀r∈f,r.1.e.size<=5000/\r.1.h=3)/\Hid (Below (z (A w)) w wr)) (λi _=>n - (intOf i).toNat);case atStart=>exact⟨0,_,[],rfl,by omega,rfl,fd,λ_ h=>absurd h nj,λ_ h=>absurd h nj,A0⟩
 case round =>
  obtain⟨k,v1,f,rfl,hk,ex,H,G2,N2,B2⟩:=hrel;have HK:Hid (f.length=k):=ex;obtain⟨L,c5,rfl⟩:=aQ H.w.y;obtain⟨ZL,V⟩:=H.cells;have sm:=H.lt;have hrn:f.length<=200:=by omega
  clear ex;by_cases hlt:k<n
  ·have hwk:IntKind.i64.wrap ((k:Int)+1)=(k:Int)+1:=by rw[p9];omega
   go_wp2_with fail;refine(jQ (k+1) (by omega) _).mono ?_;rintro e ZO ⟨nb,rfl,hnb,O⟩;have M:=ae (H.aa O ly);have B3:=ae (B2.trans (O.mono B2.size));obtain⟨ZL,V⟩:=M.cells;have sm:=M.lt;clear O;by_cases aq:(n:Int) - 1=(k:Int)
   case' pos =>
    go_wp2_with fail;obtain⟨t,o⟩:∃ZR,ZR=en:=⟨_,rfl⟩
    have n9:t.size<=5000:=by rw[o];omega
   case' neg =>
    have mv:¬ (k:Int)=(n:Int) - 1:=λe=>aq e.symm;clear aq;go_wp2_with fail;clear mv;obtain⟨t,o⟩:∃ZR,ZR=nb:=⟨_,rfl⟩
    have n9:t.size<=5000:=by rw[o];omega
   all_goals
    rw[<-o];have HZ:=ae o;clear o;clear ZL V;have B:=ae M.keepT;refine aH (BxT (Y ZS q.length c2) (Y L f.length c5) xb) 14 (by kernel_rfl) ?_;have l:=ae (B ZO.drew (λj m _=>rfl))
    iterate 3
     refine aK 0 (v:=?_) rfl rfl (by kernel_rfl) (λ_ _ _ h=>h) rfl ?_ l ?_;rotate_left
     ·(rintro wz ⟨s0,s1⟩;go_simp)
      (try with_reducible rfl)
     (try simp only[Act.put,nzL])
    refine aK 4 (v:=?_) rfl rfl (by kernel_rfl) (λ_ _ _ h=>h) rfl ?_ l ?_;rotate_left
    ·(rintro wz ⟨s0,s1⟩;go_simp)
     (try with_reducible rfl)
    (try simp only[Act.put,nzL])
    refine aj (i:=3) rfl (by kernel_rfl) λK b=>?_;go_simp;go_at_call 83;refine(jQ k (by omega) _).mono ?_;rintro e wl ⟨G,rfl,htn,la⟩;have R:Hid (Below (z (A ZO)) ZO wl):=(BS ZO).drew.trans la;clear la l;have l:=ae (B wl (λj m _=>R.block j m));refine b _ _ (λ_=>l) ?_;clear b K
    (try simp only[Act.put,nzL])
    refine aj (i:=5) rfl (by kernel_rfl) λK b=>?_;go_simp;go_at_call 84;refine(bw _ _).mono ?_;rintro e wm ⟨rfl,ZJ⟩;have S:=ae (R.trans (ZJ.mono R.size));clear ZJ l;have l:=ae (B wm (λj m _=>S.block j m));refine b _ _ (λ_=>l) ?_;clear b K
    (try simp only[Act.put,nzL])
    refine aj (i:=6) rfl (by kernel_rfl) λK b=>?_;go_simp;go_at_call 85;refine(bm _ _).mono ?_;rintro e wo ⟨rfl,X⟩;have P:=ae (S.trans (X.mono S.size));clear X l;have l:=ae (B wo (λj m _=>P.block j m));refine b _ _ (λ_=>l) ?_;clear b K
    (try simp only[Act.put,nzL])
    refine aj (i:=7) rfl (by kernel_rfl) λK b=>?_;go_simp;go_at_call 85;refine(bm _ _).mono ?_;rintro e s ⟨rfl,ZK⟩;have BN:=ae (P.trans (ZK.mono P.size));clear ZK l R S P;have hzn:=BN.size;have BI:=ae (BN.alloc (by omega) (N #[J I 1,U t,J I 0,J I 12,U ⟨#[]⟩,J I 0,J I 15,U ⟨#[]⟩,J I 0] 146));have hxi:=M.hi;have OI:=ae (Al s t (base:=z (A w)+1) (by omega));have l:=ae (B s (λj m _=>BN.block j m));refine b _ _ (λ_=>l) ?_;clear b K l
    (try simp only[Act.put,nzL])
    have l:=ae (B _ (λj m _=>BI.block j m))
    iterate 3
     refine bU 8 rfl rfl (by kernel_rfl) λK b=>?_;go_simp;refine b _ _ (λ_=>l) ?_;clear b K
     (try simp only[Act.put,nzL])
    have ph:(s.alloc (N #[J I 1,U t,J I 0,J I 12,U ⟨#[]⟩,J I 0,J I 15,U ⟨#[]⟩,J I 0] 146)).heap.size=z (A s)+1:=by simp
    have AB:=ae (BI.alloc (by omega) (N #[U G,Y (T (Q (z (A s)) 0 Z)) 3 3] 125));refine aj (i:=11) rfl (by kernel_rfl) λK b=>?_;go_simp;have ZM:=ae (M.aa AB ly);have OA:=ae (own_below OI (br.alloc ly (N #[U G,Y (T (Q (z (A s)) 0 Z)) 3 3] 125)) ly);refine b _ _ (λ_=>B _ (λj m _=>AB.block j m)) ?_;clear b K
    (try simp only[Act.put,nzL])
    refine aj (i:=12) rfl (by kernel_rfl) λK b=>?_;refine aW rfl (.tmp 25) (.tmp 35) 27 rfl (z (A w)+1) 125 ld (ZG #[U ⟨#[]⟩,Y Z 0 0]) 2 40 LU m qr n6 n8 rfl (by decide) (Y L f.length c5) f.length (f.flatMap aZ) (by simp[Act.eval]) ZM.w.y (Q (z (A s)+1) 0 Z) 1 1 (aZ (⟨G,3,lsI (iu t)⟩,z (A s),3)) (by simp[Act.eval]) rfl (λj u hu=>oP (ph) _ _ _ j u hu) (by simp[aZ,Value.oneCell']) (by unfold maxLen;omega) (by omega) (by have:=ZM.hi;have:=ZM.lt;omega) ?_;intro v' w7 ZP y _;obtain⟨a7,c7,rfl⟩:=aQ ZP;have S7:=ae (B w7 (λj m ro=>(y.block j (lj m AB.size) ro).trans (AB.block j m)));obtain⟨c8,b8⟩:=ZM.addT (x:=⟨G,3,lsI (iu t)⟩) (g:=z (A s)) (c:=3) (λr C e=>by have:=M.w.ltg r C;omega) OA ZP y;have X9:=ae c8;have B9:=ae b8;clear ZP y c8 b8;refine b _ _ (λ_=>S7) ?_;clear b K
    (try simp only[Act.put,nzL])
    refine aj (i:=13) rfl (by kernel_rfl) λK b=>?_;go_simp;refine b _ _ (λ_=>S7) ?_;clear b K
    (try simp only[Act.put,nzL])
    obtain⟨s7,t7⟩:=S7.out;have f7:w7.frozen? (Q xb 1 Z)=ZA:=by simp[World.frozen?,s7]
    have l7:=ar s7;clear s7;refine aj (i:=14) rfl (by kernel_rfl) λK b=>?_;go_simp;refine b _ _ (λh=>absurd rfl h) ?_;clear b K
    (try simp only[Act.put,nzL])
    refine be (by kernel_rfl) ?_ _;have o:=HZ.out;subst o;go_wp2;have BB:=ae ((AB.mono (show (z (A w))+1<=z (A ZO) by omega)).trans B9.out)
    refine⟨⟨k+1,Y a7 (f.length+1) c7,f++[((⟨G,3,lsI (iu t)⟩,z (A s),3):TR)],by go_num,by omega,by rw[eL,HK.out];rfl,X9,G2.add (r:=(⟨G,3,lsI (iu t)⟩,z (A s),3)) (by show 3<=300;omega) (yE (by omega)),(λr C=>by
     rcases wC.1 C with C|C
     ·exact N2 r C
     ·rw[hU.1 C];exact⟨by show G.size<=5000;omega,rfl⟩),B3.trans (BB.mono (by omega))⟩,by simp[intOf];omega⟩
  ·obtain rfl:k=n:=by omega
   have kr:=H.res;have r0:wr.cell? (Q (z (A w)) 0 Z)=T (Y Z 0 0):=by simp[World.cell?,kr]
   have r1:wr.cell? (Q (z (A w)) 1 Z)=T (Y Z 0 0):=by simp[World.cell?,kr]
   have f0:wr.frozen? (Q (z (A w)) 0 Z)=ZA:=by simp[World.frozen?,kr]
   have f1:wr.frozen? (Q (z (A w)) 1 Z)=ZA:=by simp[World.frozen?,kr]
   have l0:=ar kr;clear kr;have BE:=ae ((B2.setCell (p:=(Q (z (A w)) 0 Z)) ly (Y ZS q.length c2)).setCell (p:=(Q (z (A w)) 1 Z)) ly (Y L f.length c5));have HE:=ae ((H.fin rfl rfl (by omega) (by omega) G2 (Y ZS q.length c2) (Y L f.length c5)).mono (D0 (z (A w))));have TE:=ae ((H.w.set (j:=0) (j4 _) (Y ZS q.length c2)).set (j:=1) (j4 _) (Y L f.length c5));go_wp2;exact bp (v:=ZG #[Y ZS q.length c2,Y L f.length c5]) (by simp[results,results95,go_sem,r0,r1]) rfl ⟨_,_,_,_,_,_,_,rfl,HK,by omega,HE,TE,G2,N2,BE⟩
