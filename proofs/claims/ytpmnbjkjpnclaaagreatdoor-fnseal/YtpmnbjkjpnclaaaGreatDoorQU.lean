import Derived.Test.YtpmnbjkjpnclaaaGreatDoorQQ
import Derived.Test.YtpmnbjkjpnclaaaGreatDoorQE
import Derived.Deep.LoopGhost
set_option maxRecDepth 100000
set_option maxHeartbeats 8000000
open Go renaming Addr.mk->Q,Value.slice->Z,Value.string->U,Value.int->N,Value.agg->ZH,Obj.cells->J,IntKind.i64->I,World->M,Value->ZC,Ending.returned->ZF
open Option renaming none->Y,some->T
open Bool renaming false->ZA
namespace Go.Proofs.YtpmnbjkjpnclaaaGreatDoor.Vp
open Tryz RowKit Ca
def DF (w:M)(e:Ending)(b:M):Prop:=∃(a0:Option Addr) (n0 c0:Nat) (f0:Nat->Source) (a1:Option Addr) (n1 c1:Nat) (f1:Nat->Target),e=ZF (ZH #[Z a0 n0 c0,Z a1 n1 c1])/\HSp w.heap.size b a0 n0 f0 a1 n1 f1/\Below w.heap.size w b
def DFn (n:Nat)(w:M)(e:Ending)(c:M):Prop:=∃(a0:Option Addr) (n0 c0:Nat) (f0:Nat->Source) (a1:Option Addr) (c1:Nat) (b:List TR),e=ZF (ZH #[Z a0 n0 c0,Z a1 b.length c1])/\b.length=n/\n0<=250/\HSp w.heap.size c a0 n0 f0 a1 b.length (b9 (b.map (·.1)))/\TRow c (w.heap.size+1) (Z a1 b.length c1) b/\GX b/\(∀r∈b,r.1.e.size<=5000/\r.1.f=3)/\Below w.heap.size w c
theorem oJ (n:Nat)(hn:n<=200)(en:ByteArray)(he:en.size<=5000)(w:M):Calls Tryz.prog 144 #[N I n,U en] w λe w'=>DFn n w e w':=by
 obtain⟨At,l,sm,ph,ur⟩:=OB gT;have dg:(w.alloc (J #[Z Y 0 0,Z Y 0 0] 27)).heap.size=w.heap.size+1:=by simp
 have ZL:((w.alloc (J #[Z Y 0 0,Z Y 0 0] 27)).alloc (J #[U ⟨#[97]⟩,U ⟨#[103,114,111,117,110,100]⟩] 142)).heap.size=w.heap.size+1+1:=by simp
 obtain⟨W2,C⟩:∃W:M,((w.alloc (J #[Z Y 0 0,Z Y 0 0] 27)).alloc (J #[U ⟨#[97]⟩,U ⟨#[103,114,111,117,110,100]⟩] 142)).alloc (J #[Z (T (Q (w.heap.size+1) 0 Y)) 1 1,Z Y 0 0] 27)=W:=⟨_,rfl⟩
 obtain⟨A0,-,-,-,-⟩:=nb3 C;have G:=ae C;clear C;have X1:Hid (SpX w.heap.size (w.heap.size+1+1) (w.heap.size+1) W2 (Z (T (Q (w.heap.size+1) 0 Y)) 1 1) (Z Y 0 0) [⟨⟨#[97]⟩,⟨#[103,114,111,117,110,100]⟩⟩] []):=by rw[<-G.out];have k1:=nL w (J #[Z Y 0 0,Z Y 0 0] 27);have k2:=nL (w.alloc (J #[Z Y 0 0,Z Y 0 0] 27)) (J #[U ⟨#[97]⟩,U ⟨#[103,114,111,117,110,100]⟩] 142);rw[dg] at k2;have BQ:=(dB (w.heap.size+1) (w.alloc (J #[Z Y 0 0,Z Y 0 0] 27))).alloc (by omega) (J #[U ⟨#[97]⟩,U ⟨#[103,114,111,117,110,100]⟩] 142);have h:=yz (LS:=[⟨⟨#[97]⟩,⟨#[103,114,111,117,110,100]⟩⟩]) (base:=w.heap.size+1) (base':=w.heap.size+1) ((BQ.block w.heap.size (AI _)).trans k1) (AI _) ly (by omega) (v0:=Z (T (Q (w.heap.size+1) 0 Y)) 1 1) ⟨rfl,.inr ⟨w.heap.size+1,1,_,rfl,n6 _,k2,n6 _,by unfold maxLen;omega,rfl,rfl⟩⟩ (dh _ _);rw[ZL] at h;exact h
 have hw2:IntKind.i64.wrap ((n:Int) - 1)=(n:Int) - 1:=by rw[p9];omega
 clear dg ZL;go_enter func144,ntmps144;go_wp2_with fail;rw[G.out];clear G;obtain⟨q,A,c2,hLS,ZJ⟩:∃(q:List Source) (A:Option Addr) (c2:Nat),q.length<=250/\Hid (SpX w.heap.size (w.heap.size+1+1) (w.heap.size+1) W2 (Z A q.length c2) (Z Y 0 0) q []):=⟨[⟨⟨#[97]⟩,⟨#[103,114,111,117,110,100]⟩⟩],T (Q (w.heap.size+1) 0 Y),1,by show 1<=250;omega,X1⟩
 clear X1;generalize th:w.heap.size+1+1=xb at ZJ ⊢;clear th;go_loopw [6] (λi wr=>∃(k:Nat) (v1:ZC) (b:List TR),i=N I k/\k<=n/\b.length=k/\Hid (SpX w.heap.size xb (w.heap.size+1) wr (Z A q.length c2) v1 q b)/\Hid (GX b)/\Hid (∀r∈b,r.1.e.size<=5000/\r.1.f=3)/\Hid (Below w.heap.size w wr)) (λi _=>n - (intOf i).toNat);case atStart=>exact⟨0,_,[],rfl,by omega,rfl,ZJ,λ_ h=>absurd h nj,λ_ h=>absurd h nj,A0⟩
 case round =>
  obtain⟨k,v1,b,rfl,hk,X,F,G2,N2,B2⟩:=hrel;have HK:Hid (b.length=k):=X;obtain⟨ZQ,c5,rfl⟩:=aU F.R.i;obtain⟨la,ZK⟩:=F.cells;have n9:=F.lt;have hrn:b.length<=200:=by omega
  clear X;by_cases hlt:k<n
  ·have hwk:IntKind.i64.wrap ((k:Int)+1)=(k:Int)+1:=by rw[p9];omega
   go_wp2_with fail;refine(ox (k+1) (by omega) _).mono ?_;rintro e L ⟨nb,rfl,hnb,ZR⟩;have ZP:=ae (F.aa ZR ly);have B3:=ae (B2.trans (ZR.mono B2.size));obtain⟨la,ZK⟩:=ZP.cells;have n9:=ZP.lt;clear ZR;by_cases bt:(n:Int) - 1=(k:Int)
   case' pos =>
    go_wp2_with fail;obtain⟨t,o⟩:∃z,z=en:=⟨_,rfl⟩
    have mv:t.size<=5000:=by rw[o];omega
   case' neg =>
    have ld:¬ (k:Int)=(n:Int) - 1:=λe=>bt e.symm;clear bt;go_wp2_with fail;clear ld;obtain⟨t,o⟩:∃z,z=nb:=⟨_,rfl⟩
    have mv:t.size<=5000:=by rw[o];omega
   all_goals
    rw[<-o];have HZ:=ae o;clear o;clear la ZK;have B:=ae ZP.keepT;refine aD (BxT (Z A q.length c2) (Z ZQ b.length c5) xb) 14 (by kernel_rfl) ?_;have m:=ae (B L.drew (λj l _=>rfl))
    iterate 3
     refine aJ 0 (v:=?_) rfl rfl (by kernel_rfl) (λ_ _ _ h=>h) rfl ?_ m ?_;rotate_left
     ·(rintro wz ⟨s0,s1⟩;go_simp)
      (try with_reducible rfl)
     (try simp only[Act.put,nzL])
    refine aJ 4 (v:=?_) rfl rfl (by kernel_rfl) (λ_ _ _ h=>h) rfl ?_ m ?_;rotate_left
    ·(rintro wz ⟨s0,s1⟩;go_simp)
     (try with_reducible rfl)
    (try simp only[Act.put,nzL])
    refine ah (i:=3) rfl (by kernel_rfl) λK f=>?_;go_simp;go_at_call 97;refine(ox k (by omega) _).mono ?_;rintro e wl ⟨D,rfl,htn,fd⟩;have ZN:Hid (Below L.heap.size L wl):=(q9 L).drew.trans fd;clear fd m;have m:=ae (B wl (λj l _=>ZN.block j l));refine f _ _ (λ_=>m) ?_;clear f K
    (try simp only[Act.put,nzL])
    refine ah (i:=5) rfl (by kernel_rfl) λK f=>?_;go_simp;go_at_call 98;refine(bm _ _).mono ?_;rintro e wm ⟨rfl,V⟩;have S:=ae (ZN.trans (V.mono ZN.size));clear V m;have m:=ae (B wm (λj l _=>S.block j l));refine f _ _ (λ_=>m) ?_;clear f K
    (try simp only[Act.put,nzL])
    refine ah (i:=6) rfl (by kernel_rfl) λK f=>?_;go_simp;go_at_call 99;refine(aW _ _).mono ?_;rintro e wo ⟨rfl,ZM⟩;have R:=ae (S.trans (ZM.mono S.size));clear ZM m;have m:=ae (B wo (λj l _=>R.block j l));refine f _ _ (λ_=>m) ?_;clear f K
    (try simp only[Act.put,nzL])
    refine ah (i:=7) rfl (by kernel_rfl) λK f=>?_;go_simp;go_at_call 99;refine(aW _ _).mono ?_;rintro e s ⟨rfl,aq⟩;have BN:=ae (R.trans (aq.mono R.size));clear aq m ZN S R;have hzn:=BN.size;have BI:=ae (BN.alloc (by omega) (J #[N I 1,U t,N I 0,N I 12,U ⟨#[]⟩,N I 0,N I 15,U ⟨#[]⟩,N I 0] 151));have hxi:=ZP.hi;have OI:=ae (Cz s t (base:=w.heap.size+1) (by omega));have m:=ae (B s (λj l _=>BN.block j l));refine f _ _ (λ_=>m) ?_;clear f K m
    (try simp only[Act.put,nzL])
    have m:=ae (B _ (λj l _=>BI.block j l))
    iterate 3
     refine cD 8 rfl rfl (by kernel_rfl) λK f=>?_;go_simp;refine f _ _ (λ_=>m) ?_;clear f K
     (try simp only[Act.put,nzL])
    have qr:(s.alloc (J #[N I 1,U t,N I 0,N I 12,U ⟨#[]⟩,N I 0,N I 15,U ⟨#[]⟩,N I 0] 151)).heap.size=s.heap.size+1:=by simp
    have O:=ae (BI.alloc (by omega) (J #[U D,Z (T (Q s.heap.size 0 Y)) 3 3] 146));refine ah (i:=11) rfl (by kernel_rfl) λK f=>?_;go_simp;have P:=ae (ZP.aa O ly);have OA:=ae (own_below OI (br.alloc ly (J #[U D,Z (T (Q s.heap.size 0 Y)) 3 3] 146)) ly);refine f _ _ (λ_=>B _ (λj l _=>O.block j l)) ?_;clear f K
    (try simp only[Act.put,nzL])
    refine ah (i:=12) rfl (by kernel_rfl) λK f=>?_;refine aG rfl (.tmp 25) (.tmp 35) 25 rfl (w.heap.size+1) 146 At (ZH #[U ⟨#[]⟩,Z Y 0 0]) 2 40 QP l sm ph ur rfl (by decide) (Z ZQ b.length c5) b.length (b.flatMap bj) (by simp[Act.eval]) P.R.i (Q (s.heap.size+1) 0 Y) 1 1 (bj (⟨D,3,lsI (jg t)⟩,s.heap.size,3)) (by simp[Act.eval]) rfl (λj u hu=>FD (qr) _ _ _ j u hu) (by simp[bj,Value.oneCell']) (by unfold maxLen;omega) (by omega) (by have:=P.hi;have:=P.lt;omega) ?_;intro v' w7 E y _;obtain⟨a7,c7,rfl⟩:=aU E;have S7:=ae (B w7 (λj l ro=>(y.block j (lj l O.size) ro).trans (O.block j l)));obtain⟨c8,b8⟩:=P.addT (x:=⟨D,3,lsI (jg t)⟩) (g:=s.heap.size) (c:=3) (λr H e=>by have:=ZP.R.ltg r H;omega) OA E y;have X9:=ae c8;have B9:=ae b8;clear E y c8 b8;refine f _ _ (λ_=>S7) ?_;clear f K
    (try simp only[Act.put,nzL])
    refine ah (i:=13) rfl (by kernel_rfl) λK f=>?_;go_simp;refine f _ _ (λ_=>S7) ?_;clear f K
    (try simp only[Act.put,nzL])
    obtain⟨s7,t7⟩:=S7.out;have f7:w7.frozen? (Q xb 1 Y)=ZA:=by simp[World.frozen?,s7]
    have l7:=ag s7;clear s7;refine ah (i:=14) rfl (by kernel_rfl) λK f=>?_;go_simp;refine f _ _ (λh=>absurd rfl h) ?_;clear f K
    (try simp only[Act.put,nzL])
    refine aX (by kernel_rfl) ?_ _;have o:=HZ.out;subst o;go_wp2;have BB:=ae ((O.mono (show w.heap.size+1<=L.heap.size by omega)).trans B9.out)
    refine⟨⟨k+1,Z a7 (b.length+1) c7,b++[((⟨D,3,lsI (jg t)⟩,s.heap.size,3):TR)],by go_num,by omega,by rw[cM,HK.out];rfl,X9,G2.add (r:=(⟨D,3,lsI (jg t)⟩,s.heap.size,3)) (by show 3<=300;omega) (Aj (by omega)),(λr H=>by
     rcases p8.1 H with H|H
     ·exact N2 r H
     ·rw[nD.1 H];exact⟨by show D.size<=5000;omega,rfl⟩),B3.trans (BB.mono (by omega))⟩,by simp[intOf];omega⟩
  ·obtain rfl:k=n:=by omega
   have kr:=F.res;have r0:wr.cell? (Q w.heap.size 0 Y)=T (Z Y 0 0):=by simp[World.cell?,kr]
   have r1:wr.cell? (Q w.heap.size 1 Y)=T (Z Y 0 0):=by simp[World.cell?,kr]
   have f0:wr.frozen? (Q w.heap.size 0 Y)=ZA:=by simp[World.frozen?,kr]
   have f1:wr.frozen? (Q w.heap.size 1 Y)=ZA:=by simp[World.frozen?,kr]
   have l0:=ag kr;clear kr;have BE:=ae ((B2.setCell (p:=(Q w.heap.size 0 Y)) ly (Z A q.length c2)).setCell (p:=(Q w.heap.size 1 Y)) ly (Z ZQ b.length c5));have HE:=ae ((F.fin rfl rfl (by omega) (by omega) G2 (Z A q.length c2) (Z ZQ b.length c5)).mono (F6 w.heap.size));have TE:=ae ((F.R.set (j:=0) (AI _) (Z A q.length c2)).set (j:=1) (AI _) (Z ZQ b.length c5));go_wp2;exact bp (v:=ZH #[Z A q.length c2,Z ZQ b.length c5]) (by simp[results,results144,go_sem,r0,r1]) rfl ⟨_,_,_,_,_,_,_,rfl,HK,by omega,HE,TE,G2,N2,BE⟩
def DSp (w:M)(R q j l:Nat)(e:Ending)(b:M):Prop:=∃(c:List Source) (f:List TR) (g i:ZC),e=ZF (ZH #[g,i])/\b.ownsRow (w.heap.size+2) 142 2 g c.length (c.flatMap bK)/\TRow b (w.heap.size+2) i f/\SpG c f/\c.length<=j/\f.length<=l/\∃h:Nat,h<=q/\Rd b R h/\Only R w b
def px (k:Nat):ByteArray:=(⟨#[97,98,99,100,101,102]⟩:ByteArray).extract k (k+1)
theorem CB:∀k,k<6->(px k).size=1:=by decide
structure DP4 (w:M)(R:Nat)(v0 v1:ZC)(LS:List Source)(RT:List TR)(b q:Nat)(W:M):Prop where
 C:SpB w.heap.size W v0 v1 LS RT
 P:∃g c n f,PrG (w.heap.size+2) W RT b g c n f
 rd:Rd W R q
 O:Only R w W
 low:R<w.heap.size
theorem DP4.G {w W i:M}{R b q o:Nat}{l p:ZC}{m:List Source}{r:List TR}(h:DP4 w R l p m r b q W)(j:Only R W i)(hR:Rd i R o):DP4 w R l p m r b o i:=by have hl:=h.low;obtain⟨g,c,n,f,s⟩:=h.P;exact⟨h.C.G j h.low,⟨g,c,n,f,s.G j (by omega)⟩,hR,h.O.trans j,h.low⟩
theorem DP4.aa {w W l:M}{R b q:Nat}{j p:ZC}{o:List Source}{m:List TR}(h:DP4 w R j p o m b q W)(i:Below W.heap.size W l):DP4 w R j p o m b q l:=by obtain⟨g,c,n,f,r⟩:=h.P;exact⟨h.C.aa i,⟨g,c,n,f,r.aa i ly⟩,h.rd.aa i ly,h.O.then (i.mono h.O.size),h.low⟩
theorem Ak (R p:Nat)(w:M)(hR:Rd w R p)(hp:p<=10000):Calls Tryz.prog 95 #[.pointer (T (Q R 0 Y))] w λe w'=>DSp w R (p+5100) 6 8 e w':=by
 have HR:=ae hR;have o:=hR.lt;clear hR;have C0:=ae (Iq w);obtain⟨W,Bk⟩:∃W:M,(w.alloc (J #[Z Y 0 0,Z Y 0 0] 27)).alloc (J #[Z Y 0 0,Z Y 0 0] 27)=W:=⟨_,rfl⟩
 obtain⟨B0,-,-,-⟩:=nb2 Bk;have Lc:=ae Bk;clear Bk;obtain⟨LV,hi,Lg,Ll,LH⟩:=OB lJ;obtain⟨Lw,m,LU,LJ,LX⟩:=OB gT;go_enter func95,ntmps95;go_wp2_with fail;rw[Lc.out] at C0 ⊢;clear Lc;have R0:=ae (HR.aa B0 ly);have O0:Hid (Only R w W):=Only.u B0;go_loopg [4] 6 (λg i wr=>∃(k q:Nat) (A:ZC) (s:List Source),k+g=6/\q<=p+12*k/\s.length<=k/\i=N I k/\Hid (SpB w.heap.size wr A (Z Y 0 0) s [])/\Hid (SpG s [])/\Hid (Rd wr R q)/\Hid (Only R w wr));case atStart=>exact⟨0,p,_,[],by omega,by omega,n6 _,rfl,C0,Ip,R0,O0⟩
 case round =>
  obtain⟨k,q,A,s,hk,hq,Ls,rfl,CC,GG,RR,OO⟩:=hrel;by_cases LI:k<6
  ·have Lu:IntKind.i64.wrap ((k:Int)+1)=(k:Int)+1:=by rw[p9];omega
   go_wp2_with fail;refine(au R q 5 _ RR (by omega) (by omega) (by omega)).mono ?_;rintro e w1 ⟨z,rfl,Ld,Le,dg,ZJ⟩;have C1:=ae (CC.G ZJ o);have R1:=ae dg;have O1:=ae (OO.trans ZJ);clear dg ZJ;by_cases hz:0<z
   ·go_wp2_with fail;refine(gZ R _ _ R1 (by omega)).mono ?_;rintro e w2 ⟨t,rfl,ht,q2,L9,KZ,ur⟩;have ZP:=ae (C1.G ur o);have R2:=ae KZ;have O2:=ae (O1.trans ur);clear KZ ur;go_wp2_with fail;refine(au R _ 2 _ R2 (by omega) (by omega) (by omega)).mono ?_;rintro e D ⟨y,rfl,hy0',hy1',n9,S⟩;have C3:=ae (ZP.G S o);have R3:=ae n9;have O3:=ae (O2.trans S);clear n9 S;go_upto_if 22 with fail;go_cut [5] (λs5 wx=>∃(tx:ByteArray) (q4:Nat),s5=U tx/\tx.size<=5000/\q4<=q2+3/\Hid (SpB w.heap.size wx A (Z Y 0 0) s [])/\Hid (Rd wx R q4)/\Hid (Only R w wx));case first =>
     by_cases hy:y=0
     ·subst hy;go_wp2_with fail;refine(eh R _ _ R3 (by omega)).mono ?_;rintro e w4 ⟨s1,rfl,hs1,JT,DE⟩;have C4:=ae (C3.G DE o);have R4:=ae JT;have O4:=ae (O3.trans DE);clear JT DE;go_wp2_with fail;refine(eh R _ _ R4 (by omega)).mono ?_;rintro e w5 ⟨s2,rfl,hs2,bt,aq⟩;have C5:=ae (C4.G aq o);have R5:=ae bt;have O5:=ae (O4.trans aq);clear bt aq;have DS:(s1++⟨#[32]⟩++s2++⟨#[32]⟩++t).size<=5000:=by have e:(⟨#[32]⟩:ByteArray).size=1:=rfl;simp only[IH,e];omega
      go_wp2;go_meet;exact⟨_,_,rfl,DS,by omega,C5,R5,O5⟩
     {go_wp2;go_meet;exact⟨t,_,rfl,by omega,by omega,C3,R3,O3⟩}
    case rest =>
    clear C3 R3 O3;obtain⟨tx,q4,rfl,DS,Lp,C5,R5,O5⟩:=hcut;go_wp2_with fail;have E:Hid (∀V:M,(∀j,j<wc.heap.size->T j≠A.ownBlock->V.heap[j]?=wc.heap[j]?)->V.heap[w.heap.size+1]?=T (J #[A,Z Y 0 0] 27 (0,0))/\V.cell? (Q (w.heap.size+1) 0 Y)=T A):=λV hV=>by have h1:=(hV (w.heap.size+1) C5.lt λe=>by have:=(C5.src.lt _ e.symm).1;omega).trans C5.ab;exact⟨h1,by simp[World.cell?,h1]⟩
    refine aD (λV=>V.heap[w.heap.size+1]?=T (J #[A,Z Y 0 0] 27 (0,0))/\V.cell? (Q (w.heap.size+1) 0 Y)=T A) 11 (by kernel_rfl) ?_;have ZR:=ae (E wc.drew (λj m _=>rfl));iterate 5
     refine aJ 0 (v:=?_) rfl rfl (by kernel_rfl) (λ_ _ _ h=>h) rfl ?_ ZR ?_;rotate_left
     ·(rintro wz ⟨s0,s1⟩;go_simp)
      (try with_reducible rfl)
     (try simp only[Act.put,nzL])
    refine kG (i:=5) (v:=U (px k)) rfl (by kernel_rfl) (by kernel_rfl) (by kernel_rfl) (by kernel_rfl) (λ_ _ _ h=>h) rfl ?_ ZR ?_;{intro wz _;go_simp;rw[p6 ⟨by omega,by omega⟩,p6 (by omega)];rfl}
    (try simp only[Act.put,nzL])
    iterate 2
     refine aJ 6 (v:=?_) rfl rfl (by kernel_rfl) (λ_ _ _ h=>h) rfl ?_ ZR ?_;rotate_left
     ·(rintro wz ⟨s0,s1⟩;go_simp)
      (try with_reducible rfl)
     (try simp only[Act.put,nzL])
    refine ah (i:=8) rfl (by kernel_rfl) λK b=>?_;go_simp;have LZ:=C5.lt;have ZO:=ae (((q9 wc).alloc ly (J #[U (px k),U tx] 142)).drew);have C6:=ae (C5.aa ZO);have Mb:=ZO.size;refine b _ _ (λ_=>E _ (λj m _=>ZO.block j m)) ?_;clear b K ZR
    (try simp only[Act.put,nzL])
    refine ah (i:=9) rfl (by kernel_rfl) λK b=>?_;refine aG rfl (.tmp 33) (.tmp 40) 24 rfl (w.heap.size+2) 142 LV (ZH #[U ⟨#[]⟩,U ⟨#[]⟩]) 2 32 RQ hi Lg Ll LH rfl (by decide) A s.length (s.flatMap bK) (by simp[Act.eval]) C6.src (Q wc.heap.size 0 Y) 1 1 (bK ⟨px k,tx⟩) (by simp[Act.eval]) rfl (λj u hu=>dv wc _ _ _ j u hu) (by simp[bK,Value.oneCell']) (by unfold maxLen;omega) (by omega) (by omega) ?_;intro v' w7 H B _;obtain⟨a7,c7,rfl⟩:=aU H;have S7:=ae (E w7 (λj m ZQ=>(B.block j (lj m ZO.size) ZQ).trans (ZO.block j m)));obtain⟨c8,b8⟩:=C6.addS H B;have C8:=ae c8;have B8:=ae b8;clear H B c8 b8;refine b _ _ (λ_=>S7) ?_;clear b K
    (try simp only[Act.put,nzL])
    refine ah (i:=10) rfl (by kernel_rfl) λK b=>?_;go_simp;refine b _ _ (λ_=>S7) ?_;clear b K
    (try simp only[Act.put,nzL])
    obtain⟨s7,t7⟩:=S7.out;have f7:w7.frozen? (Q (w.heap.size+1) 0 Y)=ZA:=by simp[World.frozen?,s7]
    have l7:=ag s7;clear s7;refine ah (i:=11) rfl (by kernel_rfl) λK b=>?_;go_simp;refine b _ _ (λh=>absurd rfl h) ?_;clear b K
    (try simp only[Act.put,nzL])
    refine aX (by kernel_rfl) ?_ _;go_wp2;have BB:=ae ((ZO.mono (show w.heap.size+1<=wc.heap.size by omega)).trans B8.out);go_roundg (5 - k);case measure=>omega
    case rel=>exact⟨k+1,q4,Z a7 (s.length+1) c7,s++[(⟨px k,tx⟩:Source)],by omega,by omega,by rw[cM];exact VU Ls,by go_num,C8,GG.addS (x:=⟨px k,tx⟩) (by show(px k).size<=5000;rw[CB k LI];omega) DS,R5.low BB (by omega),O5.then (BB.mono (F6 _))⟩
   ·go_wp2;go_roundg (5 - k);case measure=>omega
    case rel=>exact⟨k+1,_,A,s,by omega,by omega,by omega,by go_num,C1,GG,R1,O1⟩
  ·obtain rfl:k=6:=by omega
   go_wp2_with fail;refine(au R q 8 _ RR (by omega) (by omega) (by omega)).mono ?_;rintro e w1 ⟨z,rfl,Ld,Le,dg,ZJ⟩;have C1:=ae (CC.G ZJ o);have R1:=ae dg;have O1:=ae (OO.trans ZJ);clear dg ZJ;obtain⟨n,rfl⟩:∃n:Nat,z=(n:Int):=⟨z.toNat,by omega⟩
   go_wp2_with fail;go_loopg [7] (n+1) (λg i wr=>∃(j q:Nat) (v1:ZC) (f:List TR),j+g=n+1/\q<=p+73+620*j/\f.length=j/\i=N I j/\Hid (SpB w.heap.size wr A v1 s f)/\Hid (SpG s f)/\Hid (Rd wr R q)/\Hid (Only R w wr));case atStart=>exact⟨0,_,_,[],by omega,by omega,rfl,rfl,C1,GG,R1,O1⟩
   case round =>
    obtain⟨j,q2,v1,f,hj2,L9,ro,rfl,ZP,G2,R2,O2⟩:=hrel;obtain⟨a1,c1,rfl⟩:=aU ZP.R.i;by_cases hjn:j<n+1
    ·have ZL:Hid (f.length=j):=ro;have hrn:f.length<=8:=by omega
     clear ro;have Lu:IntKind.i64.wrap ((j:Int)+1)=(j:Int)+1:=by rw[p9];omega
     go_wp2_with fail;refine(ju R q2 _ R2 (by omega)).mono ?_;rintro e D ⟨L,g,c,rfl,hI,Ma,hl2,hT,q3,hq3,n9,S⟩;have hlt2:=ZP.lt;have hs3:=S.size;have C3:=ae (ZP.G S o);obtain⟨W4,qr⟩:∃W:M,D.alloc (J #[Z (T (Q g 0 Y)) L.length c] 43)=W:=⟨_,rfl⟩
     obtain⟨B4,-,-⟩:=nb1 qr;have ph:=ae qr;clear qr;have P4:=ae (Cx (base:=w.heap.size+2) (RT:=f) hI (by omega) (λr hr=>ZP.R.ltg r hr) (by omega) ⟨Ma,by omega⟩ hT);have C4:=ae (C3.aa B4);have R4:=ae (n9.aa B4 ly);have O4:=ae ((O2.trans S).then (B4.mono (by omega)));have D4:Hid (DP4 w R A (Z a1 f.length c1) s f D.heap.size q3 W4):=by cases ph.out;exact⟨C4,⟨_,_,_,_,P4⟩,R4,O4,o⟩
     clear n9 S hI hT C3 C4 P4 R4 O4;go_upto_region 15 with fail;rw[ph.out];clear ph;clear B4;go_cut [59] (λLt wx=>∃(b1:Bool) (q4:Nat),Lt=.bool b1/\(b1=true->0<j)/\q4<=q3+1/\Hid (DP4 w R A (Z a1 f.length c1) s f D.heap.size q4 wx));case first =>
      by_cases La:0<(j:Int)
      {go_wp2_with fail;refine(au R _ 5 _ D4.rd (by omega) (by omega) (by omega)).mono ?_;rintro e w5 ⟨z5,rfl,h50,h51,bt,aq⟩;have D5:=ae (D4.G aq bt);clear bt aq;go_wp2;go_meet;exact⟨_,_,rfl,λ_=>by omega,by omega,D5⟩};{go_wp2;go_meet;exact⟨_,_,rfl,λh=>by simp at h,by omega,D4⟩}
     case rest =>
     clear D4;obtain⟨b1,q4,rfl,Lh,Lp,D5⟩:=hcut;go_upto_if 59 with fail;go_cut [] (λwx=>∃q5:Nat,q5<=q4+1/\Hid (DP4 w R A (Z a1 f.length c1) s f D.heap.size q5 wx));case first =>
      cases b1 with
      |true =>
       have La:0<(j:Int):=by have:=Lh rfl;omega
       obtain⟨gt,_,rfl,_⟩:=ZP.R.atk (k:=0) (by have:=ZL.out;omega);go_wp2_with fail;have E:Hid (∀V:M,(∀j,j<wc.heap.size->j≠R->V.heap[j]?=wc.heap[j]?)->V.heap[w.heap.size+1]?=T (J #[A,(Z (T (Q gt 0 Y)) f.length c1)] 27 (0,0))/\V.cell? (Q (w.heap.size+1) 1 Y)=T (Z (T (Q gt 0 Y)) f.length c1)):=λV hV=>by have h1:=(hV (w.heap.size+1) D5.C.lt (by omega)).trans D5.C.ab;exact⟨h1,by simp[World.cell?,h1]⟩
       refine aD (λV=>V.heap[w.heap.size+1]?=T (J #[A,(Z (T (Q gt 0 Y)) f.length c1)] 27 (0,0))/\V.cell? (Q (w.heap.size+1) 1 Y)=T (Z (T (Q gt 0 Y)) f.length c1)) 11 (by kernel_rfl) ?_;have ZR:=ae (E wc.drew (λj m _=>rfl));iterate 6
        refine aJ 0 (v:=?_) rfl rfl (by kernel_rfl) (λ_ _ _ h=>h) rfl ?_ ZR ?_;rotate_left
        ·(rintro wz ⟨s0,s1⟩;go_simp)
         (try with_reducible rfl)
        (try simp only[Act.put,nzL])
       refine ah (i:=6) rfl (by kernel_rfl) λK b=>?_;go_simp;go_at_call 40;refine(au R _ (f.length:Int) _ (D5.rd.aa br.drew ly) (by omega) (by have:=ZL.out;omega) (by omega)).mono ?_;rintro e w6 ⟨z6,rfl,Li,LG,la,fd⟩;obtain⟨k6,rfl⟩:∃k6:Nat,z6=(k6:Int):=⟨z6.toNat,by omega⟩
       have DQ:k6<f.length:=by omega
       have ZK:Hid (Only R wc w6):=(Only.u br.drew).trans fd;have ZM:=ae (D5.G ZK la);clear la fd;have S6:=ae (E w6 (λj m ZQ=>ZK.block j m ZQ));obtain⟨Lo,r6,th,Lj,mv,Lq,Lm,ld⟩:=ZM.C.R.atk DQ;have At:=ae ld;have M6:=ae mv;clear ld mv;injection th with e1;injection e1 with e2;subst e2;refine b _ _ (λ_=>S6) ?_;clear b K ZR
       (try simp only[Act.put,nzL])
       iterate 3
        refine cD 7 rfl rfl (by kernel_rfl) λK b=>?_;go_simp;refine b _ _ (λ_=>S6) ?_;clear b K
        (try simp only[Act.put,nzL])
       refine ah (i:=10) rfl (by kernel_rfl) λK b=>?_;go_simp;go_at_call 93;refine(jn _ _ _ r6.1.H _ (by have:=(G2.t r6 M6).2.1.2;omega) At).mono ?_;rintro e w7 ⟨g7,c7,rfl,Fm,sm⟩;have DH:=G2.t r6 M6.out;obtain⟨gp,cp,mp,fp,l⟩:=(ZM.aa sm).P;have D7:=ae (ZM.aa sm);have P8:=ae (l.put Fm (by have:=ZM.C.lt;omega) (λr hr=>ZM.C.R.ltg r hr) DH.2.1 DH.2.2);have S7:=ae (E w7 (λj m ZQ=>(sm.block j (lj m ZK.size)).trans (ZK.block j m ZQ)));have k7:=l.ad.c0;have z7:=l.ad.fz 0;have l7:=l.ad.lt;have LP:=l.lo;have B8:=ae ((dB D.heap.size w7).setCell (p:=(Q D.heap.size 0 Y)) ly (Z (T (Q g7 0 Y)) r6.1.f c7));have D8:Hid (DP4 w R A (Z (T (Q gt 0 Y)) f.length c1) s f D.heap.size _ (w7.setCell (Q D.heap.size 0 Y) (Z (T (Q g7 0 Y)) r6.1.f c7))):=⟨D7.C.putP l.ad LP (Z (T (Q g7 0 Y)) r6.1.f c7),⟨_,_,_,_,P8⟩,D7.rd.low B8 (by omega),D7.O.then (B8.mono (by omega)),o⟩
       clear Fm sm DH l P8 B8;refine b _ _ (λ_=>S7) ?_;clear b K
       (try simp only[Act.put,nzL])
       refine ah (i:=11) rfl (by kernel_rfl) λK b=>?_;go_simp;refine b _ _ (λh=>absurd rfl h) ?_;clear b K k7 z7
       (try simp only[Act.put,nzL])
       refine aX (by kernel_rfl) ?_ _;go_wp2;go_meet;exact⟨_,by omega,D8⟩
      |false =>go_wp2;go_meet;exact⟨q4,by omega,D5⟩
     case rest =>
     clear D5;obtain⟨q5,hq5,ZM⟩:=hcut;go_wp2_with fail;refine(au R _ 2 _ ZM.rd (by omega) (by omega) (by omega)).mono ?_;rintro e w9 ⟨z9,rfl,h90,h91,Hx,Id⟩;have D9:=ae (ZM.G Id Hx);clear Hx Id ZM;go_upto_if 73 with fail;go_cut [9] (λ_ wx=>∃q8:Nat,q8<=q5+12/\Hid (DP4 w R A (Z a1 f.length c1) s f D.heap.size q8 wx));case first =>
      by_cases LF:z9=0
      ·subst LF;go_upto_if 75 with fail;go_cut [9] (λs9 wx=>∃(nm:ByteArray) (q6:Nat),s9=U nm/\nm.size<=5000/\q6<=q5+2/\Hid (DP4 w R A (Z a1 f.length c1) s f D.heap.size q6 wx));case first =>
        by_cases La:0<(j:Int)
        ·obtain⟨gt,_,rfl,_⟩:=ZP.R.atk (k:=0) (by have:=ZL.out;omega);go_wp2_with fail;have E:Hid (∀V:M,(∀j,j<w9.heap.size->j≠R->V.heap[j]?=w9.heap[j]?)->V.heap[w.heap.size+1]?=T (J #[A,(Z (T (Q gt 0 Y)) f.length c1)] 27 (0,0))/\V.cell? (Q (w.heap.size+1) 1 Y)=T (Z (T (Q gt 0 Y)) f.length c1)):=λV hV=>by have h1:=(hV (w.heap.size+1) D9.C.lt (by omega)).trans D9.C.ab;exact⟨h1,by simp[World.cell?,h1]⟩
         refine aD (λV=>V.heap[w.heap.size+1]?=T (J #[A,(Z (T (Q gt 0 Y)) f.length c1)] 27 (0,0))/\V.cell? (Q (w.heap.size+1) 1 Y)=T (Z (T (Q gt 0 Y)) f.length c1)) 10 (by kernel_rfl) ?_;have ZR:=ae (E w9.drew (λj m _=>rfl));iterate 6
          refine aJ 0 (v:=?_) rfl rfl (by kernel_rfl) (λ_ _ _ h=>h) rfl ?_ ZR ?_;rotate_left
          ·(rintro wz ⟨s0,s1⟩;go_simp)
           (try with_reducible rfl)
          (try simp only[Act.put,nzL])
         refine ah (i:=6) rfl (by kernel_rfl) λK b=>?_;go_simp;go_at_call 40;refine(au R _ (f.length:Int) _ (D9.rd.aa br.drew ly) (by omega) (by have:=ZL.out;omega) (by omega)).mono ?_;rintro e w6 ⟨z6,rfl,Li,LG,la,fd⟩;obtain⟨k6,rfl⟩:∃k6:Nat,z6=(k6:Int):=⟨z6.toNat,by omega⟩
         have DQ:k6<f.length:=by omega
         have ZK:Hid (Only R w9 w6):=(Only.u br.drew).trans fd;have ZM:=ae (D9.G ZK la);clear la fd;have S6:=ae (E w6 (λj m ZQ=>ZK.block j m ZQ));obtain⟨Lo,r6,th,Lj,mv,Lq,Lm,ld⟩:=ZM.C.R.atk DQ;have At:=ae ld;have M6:=ae mv;clear ld mv;injection th with e1;injection e1 with e2;subst e2;refine b _ _ (λ_=>S6) ?_;clear b K ZR
         (try simp only[Act.put,nzL])
         iterate 3
          refine cD 7 rfl rfl (by kernel_rfl) λK b=>?_;go_simp;refine b _ _ (λ_=>S6) ?_;clear b K
          (try simp only[Act.put,nzL])
         refine ah (i:=10) rfl (by kernel_rfl) λK b=>?_;go_simp;refine b _ _ (λh=>absurd rfl h) ?_;have Fd:=(G2.t r6 M6).1;clear b K E S6 At M6
         (try simp only[Act.put,nzL])
         refine aX (by kernel_rfl) ?_ _;go_wp2;go_meet;exact⟨r6.1.e,_,rfl,Fd,by omega,ZM⟩
        {go_wp2;go_meet;exact⟨⟨#[97]⟩,_,rfl,by decide,by omega,D9⟩}
       case rest =>
       clear D9;obtain⟨nm,q6,rfl,Fd,hq6,Ly⟩:=hcut;go_wp2_with fail;refine(bm _ _).mono ?_;rintro e wa ⟨rfl,G⟩;have Da:=ae (Ly.aa G);clear G;go_wp2_with fail;refine(aW 12 _).mono ?_;rintro e wb ⟨rfl,G⟩;have Db:=ae (Da.aa G);clear G Da;go_wp2_with fail;refine(gZ R _ _ Db.rd (by omega)).mono ?_;rintro e wd ⟨tc,rfl,htc,qc,hqc,hR,hO⟩;have Dd:=ae (Db.G hO hR);clear hO hR Db;go_wp2_with fail;refine(bm tc _).mono ?_;rintro e we ⟨rfl,G⟩;have De:=ae (Dd.aa G);clear G Dd;go_wp2_with fail;refine(aW 2 _).mono ?_;rintro e wf ⟨rfl,G⟩;have Df:=ae (De.aa G);clear G De;go_wp2_with fail;refine(au R _ 9 _ Df.rd (by omega) (by omega) (by omega)).mono ?_;rintro e wg ⟨zf,rfl,hf0,hf1,hR,hO⟩;have Dg:=ae (Df.G hO hR);clear hO hR Df;go_wp2_with fail;refine(bw 3 _ _).mono ?_;rintro e wi ⟨rfl,G⟩;have Di:=ae (Dg.aa G);clear G Dg;go_wp2_with fail;refine(aW 15 _).mono ?_;rintro e wh ⟨rfl,G⟩;have Dh:=ae (Di.aa G);clear G Di;obtain⟨gp,cp,mp,fp,l⟩:=Dh.P;have kh:=l.ad.c0;have zh:=l.ad.fz 0;have lh:=l.ad.lt;have Lv:=ae (l.six (λr hr=>Dh.C.R.ltg r hr) (by have:=Dh.C.lt;omega) nm tc (1+zf) Fd (by omega));have GS:(wh.setCell (Q D.heap.size 0 Y) (Z (T (Q wh.heap.size 0 Y)) 6 6)).heap.size=wh.heap.size:=by simp
       have lo10:=l.lo;have Ba:=ae (((dB D.heap.size wh).setCell (p:=(Q D.heap.size 0 Y)) ly (Z (T (Q wh.heap.size 0 Y)) 6 6)).alloc (by rw[GS];omega) (J (rD nm tc (1+zf)) 151));have LQ:=ae ((Dh.C.putP l.ad l.lo (Z (T (Q wh.heap.size 0 Y)) 6 6)).aa (br.alloc ly (J (rD nm tc (1+zf)) 151)));have Lz:=ae (Dh.rd.low Ba (by omega));have Lr:=ae (Dh.O.then (Ba.mono (by omega)));clear Ba l GS;go_wp2;go_meet;exact⟨_,by omega,LQ,⟨_,_,_,_,Lv⟩,Lz,Lr,o⟩
      {go_wp2;go_meet;exact⟨_,by omega,D9⟩}
     case rest =>
     clear D9;obtain⟨q8,hq8,ZN⟩:=hcut;go_wp2_with fail;obtain⟨gp,cp,mp,fp,l⟩:=ZN.P;have PP:=ae l;clear l;have E:Hid (∀V:M,(∀j,j<wc.heap.size->T j≠(Value.slice a1 f.length c1).ownBlock->V.heap[j]?=wc.heap[j]?)->V.heap[w.heap.size+1]?=T (J #[A,Z a1 f.length c1] 27 (0,0))/\V.cell? (Q (w.heap.size+1) 1 Y)=T (Z a1 f.length c1)/\V.cell? (Q D.heap.size 0 Y)=T (Z (T (Q gp 0 Y)) mp cp)):=λV hV=>by
      have h1:=(hV (w.heap.size+1) ZN.C.lt λe=>by have:=(ZN.C.R.i.lt _ e.symm).1;omega).trans ZN.C.ab
      have h2:PB V D.heap.size (Z (T (Q gp 0 Y)) mp cp):=(hV D.heap.size PP.ad.lt λe=>by
       obtain⟨cur,Lf⟩:=ZN.C.R.type _ e.symm;have h3:=PP.ad.symm.trans Lf
       cases h3).trans PP.ad
      exact⟨h1,by simp[World.cell?,h1],h2.c0⟩
     refine aD (λV=>V.heap[w.heap.size+1]?=T (J #[A,Z a1 f.length c1] 27 (0,0))/\V.cell? (Q (w.heap.size+1) 1 Y)=T (Z a1 f.length c1)/\V.cell? (Q D.heap.size 0 Y)=T (Z (T (Q gp 0 Y)) mp cp)) 10 (by kernel_rfl) ?_;have ZR:=ae (E wc.drew (λj m _=>rfl));iterate 3
      refine aJ 0 (v:=?_) rfl rfl (by kernel_rfl) (λ_ _ _ h=>h) rfl ?_ ZR ?_;rotate_left
      ·(rintro wz ⟨s0,s1,s2⟩;go_simp)
       (try with_reducible rfl)
      (try simp only[Act.put,nzL])
     refine aJ 5 (v:=?_) rfl rfl (by kernel_rfl) (λ_ _ _ h=>h) rfl ?_ ZR ?_;rotate_left
     ·(rintro wz ⟨s0,s1,s2⟩;go_simp)
      (try with_reducible rfl)
     (try simp only[Act.put,nzL])
     refine ah (i:=3) rfl (by kernel_rfl) λK b=>?_;go_simp;go_at_call 104;refine(iS j (by omega) _).mono ?_;rintro e wt ⟨rfl,Fk⟩;have BT:Hid (Below wc.heap.size wc wt):=(q9 wc).drew.trans Fk;clear Fk;refine b _ _ (λ_=>E _ (λj m _=>BT.block j m)) ?_;clear b K ZR
     (try simp only[Act.put,nzL])
     refine ah (i:=4) rfl (by kernel_rfl) λK b=>?_;go_simp;refine b _ _ (λ_=>E _ (λj m _=>BT.block j m)) ?_;clear b K
     (try simp only[Act.put,nzL])
     have Lb:((⟨#[116]⟩:ByteArray)++⟨#[dig j]⟩).size<=5000:=by have e1:(⟨#[116]⟩:ByteArray).size=1:=rfl;have e2:(⟨#[dig j]⟩:ByteArray).size=1:=rfl;simp only[IH,e1,e2];omega
     generalize (⟨#[116]⟩:ByteArray)++⟨#[dig j]⟩=tn at Lb ⊢;refine ah (i:=6) rfl (by kernel_rfl) λK b=>?_;go_simp;refine b _ _ (λ_=>E _ (λj m _=>BT.block j m)) ?_;clear b K
     (try simp only[Act.put,nzL])
     refine ah (i:=7) rfl (by kernel_rfl) λK b=>?_;go_simp;have LZ:=ZN.C.lt;have hzt:=BT.size;have ZO:=ae (BT.alloc (by omega) (J #[U tn,Z (T (Q gp 0 Y)) mp cp] 146));have Fn:=ae (ZN.C.aa ZO);have KV:=ae (PP.aa ZO ly);have Mb:=ZO.size;refine b _ _ (λ_=>E _ (λj m _=>ZO.block j m)) ?_;clear b K
     (try simp only[Act.put,nzL])
     refine ah (i:=8) rfl (by kernel_rfl) λK b=>?_;refine aG rfl (.tmp 101) (.tmp 107) 25 rfl (w.heap.size+2) 146 Lw (ZH #[U ⟨#[]⟩,Z Y 0 0]) 2 40 QP m LU LJ LX rfl (by decide) (Z a1 f.length c1) f.length (f.flatMap bj) (by simp[Act.eval]) Fn.R.i (Q wt.heap.size 0 Y) 1 1 (bj (⟨tn,mp,fp⟩,gp,cp)) (by simp[Act.eval]) rfl (λj u hu=>dv wt _ _ _ j u hu) (by simp[bj,Value.oneCell']) (by unfold maxLen;omega) (by omega) (by omega) ?_;intro v' w7 H B _;obtain⟨a7,c7,rfl⟩:=aU H;have S7:=ae (E w7 (λj m ZQ=>(B.block j (lj m ZO.size) ZQ).trans (ZO.block j m)));obtain⟨c8,b8⟩:=Fn.addT (x:=⟨tn,mp,fp⟩) (g:=gp) (c:=cp) KV.new KV.i H B;have Lx:=ae c8;have Ln:=ae b8;clear H B c8 b8;refine b _ _ (λ_=>S7) ?_;clear b K
     (try simp only[Act.put,nzL])
     refine ah (i:=9) rfl (by kernel_rfl) λK b=>?_;go_simp;refine b _ _ (λ_=>S7) ?_;clear b K
     (try simp only[Act.put,nzL])
     obtain⟨s7,t7,y7⟩:=S7.out;have f7:w7.frozen? (Q (w.heap.size+1) 1 Y)=ZA:=by simp[World.frozen?,s7]
     have l7:=ag s7;clear s7 y7;refine ah (i:=10) rfl (by kernel_rfl) λK b=>?_;go_simp;refine b _ _ (λh=>absurd rfl h) ?_;clear b K
     (try simp only[Act.put,nzL])
     refine aX (by kernel_rfl) ?_ _;go_wp2;have BB:=ae ((ZO.mono (show w.heap.size+1<=wc.heap.size by omega)).trans Ln.out);go_roundg (n - j);case measure=>omega
     case rel=>exact⟨j+1,q8,Z a7 (f.length+1) c7,f++[((⟨tn,mp,fp⟩,gp,cp):TR)],by omega,by omega,by rw[cM,ZL.out];rfl,by go_num,Lx,G2.addT (r:=(⟨tn,mp,fp⟩,gp,cp)) Lb PP.num PP.sz,ZN.rd.low BB (by omega),ZN.O.then (BB.mono (F6 _))⟩
    ·obtain rfl:j=n+1:=by omega
     obtain⟨a0,c0,rfl⟩:=aU ZP.src;obtain⟨k0,k1⟩:=ZP.cells;have kr:=ZP.res;have r0:wr.cell? (Q w.heap.size 0 Y)=T (Z Y 0 0):=by simp[World.cell?,kr]
     have r1:wr.cell? (Q w.heap.size 1 Y)=T (Z Y 0 0):=by simp[World.cell?,kr]
     have f0:wr.frozen? (Q w.heap.size 0 Y)=ZA:=by simp[World.frozen?,kr]
     have f1:wr.frozen? (Q w.heap.size 1 Y)=ZA:=by simp[World.frozen?,kr]
     have l0:=ag kr;have l1:=ZP.lt;clear kr;have BE:=ae (((dB w.heap.size wr).setCell (p:=(Q w.heap.size 0 Y)) ly (Z a0 s.length c0)).setCell (p:=(Q w.heap.size 1 Y)) ly (Z a1 f.length c1));have OE:=ae (aQ (aQ ZP.src (R:=w.heap.size) (j:=0) (by omega) (Z a0 s.length c0)) (R:=w.heap.size) (j:=1) (by omega) (Z a1 f.length c1));have TE:=ae ((ZP.R.set (X:=w.heap.size) (j:=0) (by omega) (Z a0 s.length c0)).set (X:=w.heap.size) (j:=1) (by omega) (Z a1 f.length c1));have ZL:Hid (f.length=n+1):=ro;clear ro;go_wp2;exact bp (v:=ZH #[Z a0 s.length c0,Z a1 f.length c1]) (by simp[results,results95,go_sem,r0,r1]) rfl ⟨s,f,_,_,rfl,OE,TE,G2,by omega,by have:=ZL.out;omega,q2,by omega,R2.low BE o,O2.then BE⟩
