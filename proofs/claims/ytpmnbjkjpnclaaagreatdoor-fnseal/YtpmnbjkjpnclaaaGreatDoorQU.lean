import Derived.Test.YtpmnbjkjpnclaaaGreatDoorQQ
import Derived.Test.YtpmnbjkjpnclaaaGreatDoorQE
import Derived.Deep.LoopGhost
set_option maxRecDepth 100000
set_option maxHeartbeats 8000000
open Go renaming Addr.mk->Q,Value.slice->Z,Value.string->Y,Value.int->J,Obj.cells->N,IntKind.i64->I,World->M,Value->ZC,Ending.returned->ZF,World.cell?->A
open Option renaming none->U,some->T
open Bool renaming false->ZA
namespace Go.Proofs.YtpmnbjkjpnclaaaGreatDoor.Vp
open Tryz RowKit Ca
variable {w W:M}{R b q:Nat}{m:ZC}{p:List TR}
def DFn (n:Nat)(w:M)(e:Ending)(c:M):Prop:=∃(a0:Option Addr) (n0 c0:Nat) (f0:Nat->Source) (a1:Option Addr) (c1:Nat) (b:List TR),e=ZF (.agg #[Z a0 n0 c0,Z a1 b.length c1])/\b.length=n/\n0<=250/\HSp w.heap.size c a0 n0 f0 a1 b.length (bZ (b.map (·.1)))/\TRow c (w.heap.size+1) (Z a1 b.length c1) b/\GX b/\(∀r∈b,r.1.e.size<=5000/\r.1.f=3)/\Below w.heap.size w c
theorem oF (n:Nat)(hn:n<=200)(en:ByteArray)(he:en.size<=5000)(w:M):Calls Tryz.prog 144 #[J I n,Y en] w λe w'=>DFn n w e w':=by
 obtain⟨ld,l,sm,th,ur⟩:=L8 gR;have V:(w.alloc (N #[Z U 0 0,Z U 0 0] 27)).heap.size=w.heap.size+1:=by simp
 have ZL:((w.alloc (N #[Z U 0 0,Z U 0 0] 27)).alloc (N #[Y ⟨#[97]⟩,Y ⟨#[103,114,111,117,110,100]⟩] 142)).heap.size=w.heap.size+1+1:=by simp
 obtain⟨W2,F⟩:∃W:M,((w.alloc (N #[Z U 0 0,Z U 0 0] 27)).alloc (N #[Y ⟨#[97]⟩,Y ⟨#[103,114,111,117,110,100]⟩] 142)).alloc (N #[Z (T (Q (w.heap.size+1) 0 U)) 1 1,Z U 0 0] 27)=W:=⟨_,rfl⟩
 obtain⟨A0,-,-,-,-⟩:=nb3 F;have D:=ae F;clear F;have X1:Hid (SpX w.heap.size (w.heap.size+1+1) (w.heap.size+1) W2 (Z (T (Q (w.heap.size+1) 0 U)) 1 1) (Z U 0 0) [⟨⟨#[97]⟩,⟨#[103,114,111,117,110,100]⟩⟩] []):=by rw[<-D.out];have k1:=nL w (N #[Z U 0 0,Z U 0 0] 27);have k2:=nL (w.alloc (N #[Z U 0 0,Z U 0 0] 27)) (N #[Y ⟨#[97]⟩,Y ⟨#[103,114,111,117,110,100]⟩] 142);rw[V] at k2;have BQ:=(dB (w.heap.size+1) (w.alloc (N #[Z U 0 0,Z U 0 0] 27))).alloc (by omega) (N #[Y ⟨#[97]⟩,Y ⟨#[103,114,111,117,110,100]⟩] 142);have h:=yw (LS:=[⟨⟨#[97]⟩,⟨#[103,114,111,117,110,100]⟩⟩]) (base:=w.heap.size+1) (base':=w.heap.size+1) ((BQ.block w.heap.size (AP _)).trans k1) (AP _) ly (by omega) (v0:=Z (T (Q (w.heap.size+1) 0 U)) 1 1) ⟨rfl,.inr ⟨w.heap.size+1,1,_,rfl,n6 _,k2,n6 _,by unfold maxLen;omega,rfl,rfl⟩⟩ (dh _ _);rw[ZL] at h;exact h
 have hw2:IntKind.i64.wrap ((n:Int) - 1)=(n:Int) - 1:=by rw[p9];omega
 clear V ZL;go_enter func144,ntmps144;go_wp2_with fail;rw[D.out];clear D;obtain⟨q,ZR,c2,hLS,ZI⟩:∃(q:List Source) (ZR:Option Addr) (c2:Nat),q.length<=250/\Hid (SpX w.heap.size (w.heap.size+1+1) (w.heap.size+1) W2 (Z ZR q.length c2) (Z U 0 0) q []):=⟨[⟨⟨#[97]⟩,⟨#[103,114,111,117,110,100]⟩⟩],T (Q (w.heap.size+1) 0 U),1,by show 1<=250;omega,X1⟩
 clear X1;generalize ro:w.heap.size+1+1=xb at ZI ⊢;clear ro;go_loopw [6] (λi wr=>∃(k:Nat) (v1:ZC) (b:List TR),i=J I k/\k<=n/\b.length=k/\Hid (SpX w.heap.size xb (w.heap.size+1) wr (Z ZR q.length c2) v1 q b)/\Hid (GX b)/\Hid (∀r∈b,r.1.e.size<=5000/\r.1.f=3)/\Hid (Below w.heap.size w wr)) (λi _=>n - (intOf i).toNat);case atStart=>exact⟨0,_,[],rfl,by omega,rfl,ZI,λ_ h=>absurd h nj,λ_ h=>absurd h nj,A0⟩
 case round =>
  obtain⟨k,v1,b,rfl,hk,aq,C,G2,N2,B2⟩:=hrel;have HK:Hid (b.length=k):=aq;obtain⟨ZN,c5,rfl⟩:=aU C.R.i;obtain⟨bt,ZJ⟩:=C.cells;have ph:=C.lt;have hrn:b.length<=200:=by omega
  clear aq;by_cases hlt:k<n
  ·have hwk:IntKind.i64.wrap ((k:Int)+1)=(k:Int)+1:=by rw[p9];omega
   go_wp2_with fail;refine(oh (k+1) (by omega) _).mono ?_;rintro e ZP ⟨nb,rfl,hnb,ZQ⟩;have L:=ae (C.aa ZQ ly);have B3:=ae (B2.trans (ZQ.mono B2.size));obtain⟨bt,ZJ⟩:=L.cells;have ph:=L.lt;clear ZQ;by_cases dg:(n:Int) - 1=(k:Int)
   case' pos =>
    go_wp2_with fail;obtain⟨t,o⟩:∃z,z=en:=⟨_,rfl⟩
    have n9:t.size<=5000:=by rw[o];omega
   case' neg =>
    have mv:¬ (k:Int)=(n:Int) - 1:=λe=>dg e.symm;clear dg;go_wp2_with fail;clear mv;obtain⟨t,o⟩:∃z,z=nb:=⟨_,rfl⟩
    have n9:t.size<=5000:=by rw[o];omega
   all_goals
    rw[<-o];have HZ:=ae o;clear o;clear bt ZJ;have B:=ae L.keepT;refine aD (BxT (Z ZR q.length c2) (Z ZN b.length c5) xb) 14 (by kernel_rfl) ?_;have m:=ae (B ZP.drew (λj l _=>rfl))
    iterate 3
     refine aI 0 (v:=?_) rfl rfl (by kernel_rfl) (λ_ _ _ h=>h) rfl ?_ m ?_;rotate_left
     ·(rintro wz ⟨s0,s1⟩;go_simp)
      (try with_reducible rfl)
     (try simp only[Act.put,nzL])
    refine aI 4 (v:=?_) rfl rfl (by kernel_rfl) (λ_ _ _ h=>h) rfl ?_ m ?_;rotate_left
    ·(rintro wz ⟨s0,s1⟩;go_simp)
     (try with_reducible rfl)
    (try simp only[Act.put,nzL])
    refine ah (i:=3) rfl (by kernel_rfl) λK f=>?_;go_simp;go_at_call 97;refine(oh k (by omega) _).mono ?_;rintro e wl ⟨H,rfl,htn,fd⟩;have ZM:Hid (Below ZP.heap.size ZP wl):=(q9 ZP).drew.trans fd;clear fd m;have m:=ae (B wl (λj l _=>ZM.block j l));refine f _ _ (λ_=>m) ?_;clear f K
    (try simp only[Act.put,nzL])
    refine ah (i:=5) rfl (by kernel_rfl) λK f=>?_;go_simp;go_at_call 98;refine(bm _ _).mono ?_;rintro e wm ⟨rfl,X⟩;have R:=ae (ZM.trans (X.mono ZM.size));clear X m;have m:=ae (B wm (λj l _=>R.block j l));refine f _ _ (λ_=>m) ?_;clear f K
    (try simp only[Act.put,nzL])
    refine ah (i:=6) rfl (by kernel_rfl) λK f=>?_;go_simp;go_at_call 99;refine(aW _ _).mono ?_;rintro e wo ⟨rfl,ZK⟩;have P:=ae (R.trans (ZK.mono R.size));clear ZK m;have m:=ae (B wo (λj l _=>P.block j l));refine f _ _ (λ_=>m) ?_;clear f K
    (try simp only[Act.put,nzL])
    refine ah (i:=7) rfl (by kernel_rfl) λK f=>?_;go_simp;go_at_call 99;refine(aW _ _).mono ?_;rintro e s ⟨rfl,la⟩;have BN:=ae (P.trans (la.mono P.size));clear la m ZM R P;have hzn:=BN.size;have BI:=ae (BN.alloc (by omega) (N #[J I 1,Y t,J I 0,J I 12,Y ⟨#[]⟩,J I 0,J I 15,Y ⟨#[]⟩,J I 0] 151));have hxi:=L.hi;have OI:=ae (Cu s t (base:=w.heap.size+1) (by omega));have m:=ae (B s (λj l _=>BN.block j l));refine f _ _ (λ_=>m) ?_;clear f K m
    (try simp only[Act.put,nzL])
    have m:=ae (B _ (λj l _=>BI.block j l))
    iterate 3
     refine cD 8 rfl rfl (by kernel_rfl) λK f=>?_;go_simp;refine f _ _ (λ_=>m) ?_;clear f K
     (try simp only[Act.put,nzL])
    have At:(s.alloc (N #[J I 1,Y t,J I 0,J I 12,Y ⟨#[]⟩,J I 0,J I 15,Y ⟨#[]⟩,J I 0] 151)).heap.size=s.heap.size+1:=by simp
    have ZO:=ae (BI.alloc (by omega) (N #[Y H,Z (T (Q s.heap.size 0 U)) 3 3] 146));refine ah (i:=11) rfl (by kernel_rfl) λK f=>?_;go_simp;have S:=ae (L.aa ZO ly);have OA:=ae (own_below OI (br.alloc ly (N #[Y H,Z (T (Q s.heap.size 0 U)) 3 3] 146)) ly);refine f _ _ (λ_=>B _ (λj l _=>ZO.block j l)) ?_;clear f K
    (try simp only[Act.put,nzL])
    refine ah (i:=12) rfl (by kernel_rfl) λK f=>?_;refine aG rfl (.tmp 25) (.tmp 35) 25 rfl (w.heap.size+1) 146 ld (.agg #[Y ⟨#[]⟩,Z U 0 0]) 2 40 QH l sm th ur rfl (by decide) (Z ZN b.length c5) b.length (b.flatMap bj) (by simp[Act.eval]) S.R.i (Q (s.heap.size+1) 0 U) 1 1 (bj (⟨H,3,lsI (jf t)⟩,s.heap.size,3)) (by simp[Act.eval]) rfl (λj u hu=>Fu (At) _ _ _ j u hu) (by simp[bj,Value.oneCell']) (by unfold maxLen;omega) (by omega) (by have:=S.hi;have:=S.lt;omega) ?_;intro v' w7 G y _;obtain⟨a7,c7,rfl⟩:=aU G;have S7:=ae (B w7 (λj l qr=>(y.block j (lj l ZO.size) qr).trans (ZO.block j l)));obtain⟨c8,b8⟩:=S.addT (x:=⟨H,3,lsI (jf t)⟩) (g:=s.heap.size) (c:=3) (λr E e=>by have:=L.R.ltg r E;omega) OA G y;have X9:=ae c8;have B9:=ae b8;clear G y c8 b8;refine f _ _ (λ_=>S7) ?_;clear f K
    (try simp only[Act.put,nzL])
    refine ah (i:=13) rfl (by kernel_rfl) λK f=>?_;go_simp;refine f _ _ (λ_=>S7) ?_;clear f K
    (try simp only[Act.put,nzL])
    obtain⟨s7,t7⟩:=S7.out;have f7:w7.frozen? (Q xb 1 U)=ZA:=by simp[World.frozen?,s7]
    have l7:=ag s7;clear s7;refine ah (i:=14) rfl (by kernel_rfl) λK f=>?_;go_simp;refine f _ _ (λh=>absurd rfl h) ?_;clear f K
    (try simp only[Act.put,nzL])
    refine aX (by kernel_rfl) ?_ _;have o:=HZ.out;subst o;go_wp2;have BB:=ae ((ZO.mono (show w.heap.size+1<=ZP.heap.size by omega)).trans B9.out)
    refine⟨⟨k+1,Z a7 (b.length+1) c7,b++[((⟨H,3,lsI (jf t)⟩,s.heap.size,3):TR)],by go_num,by omega,by rw[cM,HK.out];rfl,X9,G2.add (r:=(⟨H,3,lsI (jf t)⟩,s.heap.size,3)) (by show 3<=300;omega) (Af (by omega)),(λr E=>by
     rcases p8.1 E with E|E
     ·exact N2 r E
     ·rw[nD.1 E];exact⟨by show H.size<=5000;omega,rfl⟩),B3.trans (BB.mono (by omega))⟩,by simp[intOf];omega⟩
  ·obtain rfl:k=n:=by omega
   have kr:=C.res;have r0:A wr (Q w.heap.size 0 U)=T (Z U 0 0):=by simp[World.cell?,kr]
   have r1:A wr (Q w.heap.size 1 U)=T (Z U 0 0):=by simp[World.cell?,kr]
   have f0:wr.frozen? (Q w.heap.size 0 U)=ZA:=by simp[World.frozen?,kr]
   have f1:wr.frozen? (Q w.heap.size 1 U)=ZA:=by simp[World.frozen?,kr]
   have l0:=ag kr;clear kr;have BE:=ae ((B2.setCell (p:=(Q w.heap.size 0 U)) ly (Z ZR q.length c2)).setCell (p:=(Q w.heap.size 1 U)) ly (Z ZN b.length c5));have HE:=ae ((C.fin rfl rfl (by omega) (by omega) G2 (Z ZR q.length c2) (Z ZN b.length c5)).mono (F6 w.heap.size));have TE:=ae ((C.R.set (j:=0) (AP _) (Z ZR q.length c2)).set (j:=1) (AP _) (Z ZN b.length c5));go_wp2;exact bp (v:=.agg #[Z ZR q.length c2,Z ZN b.length c5]) (by simp[results,results144,go_sem,r0,r1]) rfl ⟨_,_,_,_,_,_,_,rfl,HK,by omega,HE,TE,G2,N2,BE⟩
def DSp (w:M)(R q j l:Nat)(e:Ending)(c:M):Prop:=∃(b:List Source) (f:List TR) (h g:ZC),e=ZF (.agg #[h,g])/\c.ownsRow (w.heap.size+2) 142 2 h b.length (b.flatMap bK)/\TRow c (w.heap.size+2) g f/\SpG b f/\b.length<=j/\f.length<=l/\∃i:Nat,i<=q/\Rd c R i/\Only R w c
def pq (k:Nat):ByteArray:=(⟨#[97,98,99,100,101,102]⟩:ByteArray).extract k (k+1)
theorem Cv:∀k,k<6->(pq k).size=1:=by decide
structure DP4 (w:M)(R:Nat)(v0 v1:ZC)(LS:List Source)(RT:List TR)(b q:Nat)(W:M):Prop where
 C:SpB w.heap.size W v0 v1 LS RT
 P:∃g c n f,PrG (w.heap.size+2) W RT b g c n f
 rd:Rd W R q
 O:Only R w W
 low:R<w.heap.size
theorem DP4.F{j:M}{o:Nat}{r:ZC}{l:List Source}(h:DP4 w R r m l p b q W)(i:Only R W j)(hR:Rd j R o):DP4 w R r m l p b o j:=by have hl:=h.low;obtain⟨g,c,n,f,s⟩:=h.P;exact⟨h.C.F i h.low,⟨g,c,n,f,s.F i (by omega)⟩,hR,h.O.trans i,h.low⟩
theorem DP4.aa{o:M}{l:ZC}{j:List Source}(h:DP4 w R m l j p b q W)(i:Below W.heap.size W o):DP4 w R m l j p b q o:=by obtain⟨g,c,n,f,r⟩:=h.P;exact⟨h.C.aa i,⟨g,c,n,f,r.aa i ly⟩,h.rd.aa i ly,h.O.then (i.mono h.O.size),h.low⟩
theorem Ag (R p:Nat)(w:M)(hR:Rd w R p)(hp:p<=10000):Calls Tryz.prog 95 #[.pointer (T (Q R 0 U))] w λe w'=>DSp w R (p+5100) 6 8 e w':=by
 have HR:=ae hR;have ZR:=hR.lt;clear hR;have C0:=ae (Ig w);obtain⟨W,DS⟩:∃W:M,(w.alloc (N #[Z U 0 0,Z U 0 0] 27)).alloc (N #[Z U 0 0,Z U 0 0] 27)=W:=⟨_,rfl⟩
 obtain⟨B0,-,-,-⟩:=nb2 DS;have Ku:=ae DS;clear DS;obtain⟨Lc,hi,KD,Lp,KV⟩:=L8 lI;obtain⟨La,m,Lm,Lq,Ls⟩:=L8 gR;go_enter func95,ntmps95;go_wp2_with fail;rw[Ku.out] at C0 ⊢;clear Ku;have R0:=ae (HR.aa B0 ly);have O0:Hid (Only R w W):=Only.u B0;go_loopg [4] 6 (λg i wr=>∃(k q:Nat) (s:ZC) (o:List Source),k+g=6/\q<=p+12*k/\o.length<=k/\i=J I k/\Hid (SpB w.heap.size wr s (Z U 0 0) o [])/\Hid (SpG o [])/\Hid (Rd wr R q)/\Hid (Only R w wr));case atStart=>exact⟨0,p,_,[],by omega,by omega,n6 _,rfl,C0,Ie,R0,O0⟩
 case round =>
  obtain⟨k,q,s,o,hk,hq,KT,rfl,CC,GG,RR,OO⟩:=hrel;by_cases KU:k<6
  ·have Lg:IntKind.i64.wrap ((k:Int)+1)=(k:Int)+1:=by rw[p9];omega
   go_wp2_with fail;refine(au R q 5 _ RR (by omega) (by omega) (by omega)).mono ?_;rintro e w1 ⟨z,rfl,KC,KB,la,aq⟩;have C1:=ae (CC.F aq ZR);have R1:=ae la;have O1:=ae (OO.trans aq);clear la aq;by_cases hz:0<z
   ·go_wp2_with fail;refine(gX R _ _ R1 (by omega)).mono ?_;rintro e w2 ⟨t,rfl,ht,q2,KJ,Ky,At⟩;have ZM:=ae (C1.F At ZR);have R2:=ae Ky;have O2:=ae (O1.trans At);clear Ky At;go_wp2_with fail;refine(au R _ 2 _ R2 (by omega) (by omega) (by omega)).mono ?_;rintro e D ⟨y,rfl,hy0',hy1',ph,S⟩;have C3:=ae (ZM.F S ZR);have R3:=ae ph;have O3:=ae (O2.trans S);clear ph S;go_upto_if 22 with fail;go_cut [5] (λs5 ZI=>∃(tx:ByteArray) (q4:Nat),s5=Y tx/\tx.size<=5000/\q4<=q2+3/\Hid (SpB w.heap.size ZI s (Z U 0 0) o [])/\Hid (Rd ZI R q4)/\Hid (Only R w ZI));case first =>
     by_cases hy:y=0
     ·subst hy;go_wp2_with fail;refine(ef R _ _ R3 (by omega)).mono ?_;rintro e w4 ⟨s1,rfl,hs1,Id,DH⟩;have C4:=ae (C3.F DH ZR);have R4:=ae Id;have O4:=ae (O3.trans DH);clear Id DH;go_wp2_with fail;refine(ef R _ _ R4 (by omega)).mono ?_;rintro e w5 ⟨s2,rfl,hs2,ld,bt⟩;have C5:=ae (C4.F bt ZR);have R5:=ae ld;have O5:=ae (O4.trans bt);clear ld bt;have ur:(s1++⟨#[32]⟩++s2++⟨#[32]⟩++t).size<=5000:=by have e:(⟨#[32]⟩:ByteArray).size=1:=rfl;simp only[IH,e];omega
      go_wp2;go_meet;exact⟨_,_,rfl,ur,by omega,C5,R5,O5⟩
     {go_wp2;go_meet;exact⟨t,_,rfl,by omega,by omega,C3,R3,O3⟩}
    case rest =>
    clear C3 R3 O3;obtain⟨tx,q4,rfl,ur,Li,C5,R5,O5⟩:=hcut;go_wp2_with fail;have E:Hid (∀V:M,(∀j,j<wc.heap.size->T j≠s.ownBlock->V.heap[j]?=wc.heap[j]?)->V.heap[w.heap.size+1]?=T (N #[s,Z U 0 0] 27 (0,0))/\A V (Q (w.heap.size+1) 0 U)=T s):=λV hV=>by have h1:=(hV (w.heap.size+1) C5.lt λe=>by have:=(C5.src.lt _ e.symm).1;omega).trans C5.G;exact⟨h1,by simp[World.cell?,h1]⟩
    refine aD (λV=>V.heap[w.heap.size+1]?=T (N #[s,Z U 0 0] 27 (0,0))/\A V (Q (w.heap.size+1) 0 U)=T s) 11 (by kernel_rfl) ?_;have ZN:=ae (E wc.drew (λj m _=>rfl));iterate 5
     refine aI 0 (v:=?_) rfl rfl (by kernel_rfl) (λ_ _ _ h=>h) rfl ?_ ZN ?_;rotate_left
     ·(rintro wz ⟨s0,s1⟩;go_simp)
      (try with_reducible rfl)
     (try simp only[Act.put,nzL])
    refine kv (i:=5) (v:=Y (pq k)) rfl (by kernel_rfl) (by kernel_rfl) (by kernel_rfl) (by kernel_rfl) (λ_ _ _ h=>h) rfl ?_ ZN ?_;{intro wz _;go_simp;rw[p6 ⟨by omega,by omega⟩,p6 (by omega)];rfl}
    (try simp only[Act.put,nzL])
    iterate 2
     refine aI 6 (v:=?_) rfl rfl (by kernel_rfl) (λ_ _ _ h=>h) rfl ?_ ZN ?_;rotate_left
     ·(rintro wz ⟨s0,s1⟩;go_simp)
      (try with_reducible rfl)
     (try simp only[Act.put,nzL])
    refine ah (i:=8) rfl (by kernel_rfl) λK b=>?_;go_simp;have KH:=C5.lt;have ZQ:=ae (((q9 wc).alloc ly (N #[Y (pq k),Y tx] 142)).drew);have C6:=ae (C5.aa ZQ);have Lo:=ZQ.size;refine b _ _ (λ_=>E _ (λj m _=>ZQ.block j m)) ?_;clear b K ZN
    (try simp only[Act.put,nzL])
    refine ah (i:=9) rfl (by kernel_rfl) λK b=>?_;refine aG rfl (.tmp 33) (.tmp 40) 24 rfl (w.heap.size+2) 142 Lc (.agg #[Y ⟨#[]⟩,Y ⟨#[]⟩]) 2 32 RC hi KD Lp KV rfl (by decide) s o.length (o.flatMap bK) (by simp[Act.eval]) C6.src (Q wc.heap.size 0 U) 1 1 (bK ⟨pq k,tx⟩) (by simp[Act.eval]) rfl (λj u hu=>du wc _ _ _ j u hu) (by simp[bK,Value.oneCell']) (by unfold maxLen;omega) (by omega) (by omega) ?_;intro v' w7 H B _;obtain⟨a7,c7,rfl⟩:=aU H;have S7:=ae (E w7 (λj m ZP=>(B.block j (lj m ZQ.size) ZP).trans (ZQ.block j m)));obtain⟨c8,b8⟩:=C6.addS H B;have C8:=ae c8;have B8:=ae b8;clear H B c8 b8;refine b _ _ (λ_=>S7) ?_;clear b K
    (try simp only[Act.put,nzL])
    refine ah (i:=10) rfl (by kernel_rfl) λK b=>?_;go_simp;refine b _ _ (λ_=>S7) ?_;clear b K
    (try simp only[Act.put,nzL])
    obtain⟨s7,t7⟩:=S7.out;have f7:w7.frozen? (Q (w.heap.size+1) 0 U)=ZA:=by simp[World.frozen?,s7]
    have l7:=ag s7;clear s7;refine ah (i:=11) rfl (by kernel_rfl) λK b=>?_;go_simp;refine b _ _ (λh=>absurd rfl h) ?_;clear b K
    (try simp only[Act.put,nzL])
    refine aX (by kernel_rfl) ?_ _;go_wp2;have BB:=ae ((ZQ.mono (show w.heap.size+1<=wc.heap.size by omega)).trans B8.out);go_roundg (5 - k);case measure=>omega
    case rel=>exact⟨k+1,q4,Z a7 (o.length+1) c7,o++[(⟨pq k,tx⟩:Source)],by omega,by omega,by rw[cM];exact VM KT,by go_num,C8,GG.addS (x:=⟨pq k,tx⟩) (by show(pq k).size<=5000;rw[Cv k KU];omega) ur,R5.low BB (by omega),O5.then (BB.mono (F6 _))⟩
   ·go_wp2;go_roundg (5 - k);case measure=>omega
    case rel=>exact⟨k+1,_,s,o,by omega,by omega,by omega,by go_num,C1,GG,R1,O1⟩
  ·obtain rfl:k=6:=by omega
   go_wp2_with fail;refine(au R q 8 _ RR (by omega) (by omega) (by omega)).mono ?_;rintro e w1 ⟨z,rfl,KC,KB,la,aq⟩;have C1:=ae (CC.F aq ZR);have R1:=ae la;have O1:=ae (OO.trans aq);clear la aq;obtain⟨n,rfl⟩:∃n:Nat,z=(n:Int):=⟨z.toNat,by omega⟩
   go_wp2_with fail;go_loopg [7] (n+1) (λg i wr=>∃(j q:Nat) (v1:ZC) (f:List TR),j+g=n+1/\q<=p+73+620*j/\f.length=j/\i=J I j/\Hid (SpB w.heap.size wr s v1 o f)/\Hid (SpG o f)/\Hid (Rd wr R q)/\Hid (Only R w wr));case atStart=>exact⟨0,_,_,[],by omega,by omega,rfl,rfl,C1,GG,R1,O1⟩
   case round =>
    obtain⟨j,q2,v1,f,hj2,KJ,sm,rfl,ZM,G2,R2,O2⟩:=hrel;obtain⟨a1,c1,rfl⟩:=aU ZM.R.i;by_cases hjn:j<n+1
    ·have ZJ:Hid (f.length=j):=sm;have hrn:f.length<=8:=by omega
     clear sm;have Lg:IntKind.i64.wrap ((j:Int)+1)=(j:Int)+1:=by rw[p9];omega
     go_wp2_with fail;refine(jt R q2 _ R2 (by omega)).mono ?_;rintro e D ⟨L,g,c,rfl,hI,Lr,hl2,hT,q3,hq3,ph,S⟩;have hlt2:=ZM.lt;have hs3:=S.size;have C3:=ae (ZM.F S ZR);obtain⟨W4,ro⟩:∃W:M,D.alloc (N #[Z (T (Q g 0 U)) L.length c] 43)=W:=⟨_,rfl⟩
     obtain⟨B4,-,-⟩:=nb1 ro;have qr:=ae ro;clear ro;have P4:=ae (Cs (base:=w.heap.size+2) (RT:=f) hI (by omega) (λr hr=>ZM.R.ltg r hr) (by omega) ⟨Lr,by omega⟩ hT);have C4:=ae (C3.aa B4);have R4:=ae (ph.aa B4 ly);have O4:=ae ((O2.trans S).then (B4.mono (by omega)));have D4:Hid (DP4 w R s (Z a1 f.length c1) o f D.heap.size q3 W4):=by cases qr.out;exact⟨C4,⟨_,_,_,_,P4⟩,R4,O4,ZR⟩
     clear ph S hI hT C3 C4 P4 R4 O4;go_upto_region 15 with fail;rw[qr.out];clear qr;clear B4;go_cut [59] (λKE ZI=>∃(b1:Bool) (q4:Nat),KE=.bool b1/\(b1=true->0<j)/\q4<=q3+1/\Hid (DP4 w R s (Z a1 f.length c1) o f D.heap.size q4 ZI));case first =>
      by_cases JT:0<(j:Int)
      {go_wp2_with fail;refine(au R _ 5 _ D4.rd (by omega) (by omega) (by omega)).mono ?_;rintro e w5 ⟨z5,rfl,h50,h51,ld,bt⟩;have D5:=ae (D4.F bt ld);clear ld bt;go_wp2;go_meet;exact⟨_,_,rfl,λ_=>by omega,by omega,D5⟩};{go_wp2;go_meet;exact⟨_,_,rfl,λh=>by simp at h,by omega,D4⟩}
     case rest =>
     clear D4;obtain⟨b1,q4,rfl,Lj,Li,D5⟩:=hcut;go_upto_if 59 with fail;go_cut [] (λZI=>∃q5:Nat,q5<=q4+1/\Hid (DP4 w R s (Z a1 f.length c1) o f D.heap.size q5 ZI));case first =>
      cases b1 with
      |true =>
       have JT:0<(j:Int):=by have:=Lj rfl;omega
       obtain⟨gt,_,rfl,_⟩:=ZM.R.atk (k:=0) (by have:=ZJ.out;omega);go_wp2_with fail;have E:Hid (∀V:M,(∀j,j<wc.heap.size->j≠R->V.heap[j]?=wc.heap[j]?)->V.heap[w.heap.size+1]?=T (N #[s,(Z (T (Q gt 0 U)) f.length c1)] 27 (0,0))/\A V (Q (w.heap.size+1) 1 U)=T (Z (T (Q gt 0 U)) f.length c1)):=λV hV=>by have h1:=(hV (w.heap.size+1) D5.C.lt (by omega)).trans D5.C.G;exact⟨h1,by simp[World.cell?,h1]⟩
       refine aD (λV=>V.heap[w.heap.size+1]?=T (N #[s,(Z (T (Q gt 0 U)) f.length c1)] 27 (0,0))/\A V (Q (w.heap.size+1) 1 U)=T (Z (T (Q gt 0 U)) f.length c1)) 11 (by kernel_rfl) ?_;have ZN:=ae (E wc.drew (λj m _=>rfl));iterate 6
        refine aI 0 (v:=?_) rfl rfl (by kernel_rfl) (λ_ _ _ h=>h) rfl ?_ ZN ?_;rotate_left
        ·(rintro wz ⟨s0,s1⟩;go_simp)
         (try with_reducible rfl)
        (try simp only[Act.put,nzL])
       refine ah (i:=6) rfl (by kernel_rfl) λK b=>?_;go_simp;go_at_call 40;refine(au R _ (f.length:Int) _ (D5.rd.aa br.drew ly) (by omega) (by have:=ZJ.out;omega) (by omega)).mono ?_;rintro e w6 ⟨z6,rfl,KN,Ln,mv,dg⟩;obtain⟨k6,rfl⟩:∃k6:Nat,z6=(k6:Int):=⟨z6.toNat,by omega⟩
       have DQ:k6<f.length:=by omega
       have ZK:Hid (Only R wc w6):=(Only.u br.drew).trans dg;have ZL:=ae (D5.F ZK mv);clear mv dg;have S6:=ae (E w6 (λj m ZP=>ZK.block j m ZP));obtain⟨KM,r6,DE,Ld,n9,KO,KP,fd⟩:=ZL.C.R.atk DQ;have Fk:=ae fd;have M6:=ae n9;clear fd n9;injection DE with e1;injection e1 with e2;subst e2;refine b _ _ (λ_=>S6) ?_;clear b K ZN
       (try simp only[Act.put,nzL])
       iterate 3
        refine cD 7 rfl rfl (by kernel_rfl) λK b=>?_;go_simp;refine b _ _ (λ_=>S6) ?_;clear b K
        (try simp only[Act.put,nzL])
       refine ah (i:=10) rfl (by kernel_rfl) λK b=>?_;go_simp;go_at_call 93;refine(jm _ _ _ r6.1.H _ (by have:=(G2.t r6 M6).2.1.2;omega) Fk).mono ?_;rintro e w7 ⟨g7,c7,rfl,Fn,th⟩;have Bk:=G2.t r6 M6.out;obtain⟨gp,cp,mp,fp,l⟩:=(ZL.aa th).P;have D7:=ae (ZL.aa th);have P8:=ae (l.put Fn (by have:=ZL.C.lt;omega) (λr hr=>ZL.C.R.ltg r hr) Bk.2.1 Bk.2.2);have S7:=ae (E w7 (λj m ZP=>(th.block j (lj m ZK.size)).trans (ZK.block j m ZP)));have k7:=l.ab.c0;have z7:=l.ab.fz 0;have l7:=l.ab.lt;have Le:=l.lo;have B8:=ae ((dB D.heap.size w7).setCell (p:=(Q D.heap.size 0 U)) ly (Z (T (Q g7 0 U)) r6.1.f c7));have D8:Hid (DP4 w R s (Z (T (Q gt 0 U)) f.length c1) o f D.heap.size _ (w7.setCell (Q D.heap.size 0 U) (Z (T (Q g7 0 U)) r6.1.f c7))):=⟨D7.C.putP l.ab Le (Z (T (Q g7 0 U)) r6.1.f c7),⟨_,_,_,_,P8⟩,D7.rd.low B8 (by omega),D7.O.then (B8.mono (by omega)),ZR⟩
       clear Fn th Bk l P8 B8;refine b _ _ (λ_=>S7) ?_;clear b K
       (try simp only[Act.put,nzL])
       refine ah (i:=11) rfl (by kernel_rfl) λK b=>?_;go_simp;refine b _ _ (λh=>absurd rfl h) ?_;clear b K k7 z7
       (try simp only[Act.put,nzL])
       refine aX (by kernel_rfl) ?_ _;go_wp2;go_meet;exact⟨_,by omega,D8⟩
      |false =>go_wp2;go_meet;exact⟨q4,by omega,D5⟩
     case rest =>
     clear D5;obtain⟨q5,hq5,ZL⟩:=hcut;go_wp2_with fail;refine(au R _ 2 _ ZL.rd (by omega) (by omega) (by omega)).mono ?_;rintro e w9 ⟨z9,rfl,h90,h91,Kx,Kw⟩;have D9:=ae (ZL.F Kw Kx);clear Kx Kw ZL;go_upto_if 73 with fail;go_cut [9] (λ_ ZI=>∃q8:Nat,q8<=q5+12/\Hid (DP4 w R s (Z a1 f.length c1) o f D.heap.size q8 ZI));case first =>
      by_cases Ll:z9=0
      ·subst Ll;go_upto_if 75 with fail;go_cut [9] (λs9 ZI=>∃(nm:ByteArray) (q6:Nat),s9=Y nm/\nm.size<=5000/\q6<=q5+2/\Hid (DP4 w R s (Z a1 f.length c1) o f D.heap.size q6 ZI));case first =>
        by_cases JT:0<(j:Int)
        ·obtain⟨gt,_,rfl,_⟩:=ZM.R.atk (k:=0) (by have:=ZJ.out;omega);go_wp2_with fail;have E:Hid (∀V:M,(∀j,j<w9.heap.size->j≠R->V.heap[j]?=w9.heap[j]?)->V.heap[w.heap.size+1]?=T (N #[s,(Z (T (Q gt 0 U)) f.length c1)] 27 (0,0))/\A V (Q (w.heap.size+1) 1 U)=T (Z (T (Q gt 0 U)) f.length c1)):=λV hV=>by have h1:=(hV (w.heap.size+1) D9.C.lt (by omega)).trans D9.C.G;exact⟨h1,by simp[World.cell?,h1]⟩
         refine aD (λV=>V.heap[w.heap.size+1]?=T (N #[s,(Z (T (Q gt 0 U)) f.length c1)] 27 (0,0))/\A V (Q (w.heap.size+1) 1 U)=T (Z (T (Q gt 0 U)) f.length c1)) 10 (by kernel_rfl) ?_;have ZN:=ae (E w9.drew (λj m _=>rfl));iterate 6
          refine aI 0 (v:=?_) rfl rfl (by kernel_rfl) (λ_ _ _ h=>h) rfl ?_ ZN ?_;rotate_left
          ·(rintro wz ⟨s0,s1⟩;go_simp)
           (try with_reducible rfl)
          (try simp only[Act.put,nzL])
         refine ah (i:=6) rfl (by kernel_rfl) λK b=>?_;go_simp;go_at_call 40;refine(au R _ (f.length:Int) _ (D9.rd.aa br.drew ly) (by omega) (by have:=ZJ.out;omega) (by omega)).mono ?_;rintro e w6 ⟨z6,rfl,KN,Ln,mv,dg⟩;obtain⟨k6,rfl⟩:∃k6:Nat,z6=(k6:Int):=⟨z6.toNat,by omega⟩
         have DQ:k6<f.length:=by omega
         have ZK:Hid (Only R w9 w6):=(Only.u br.drew).trans dg;have ZL:=ae (D9.F ZK mv);clear mv dg;have S6:=ae (E w6 (λj m ZP=>ZK.block j m ZP));obtain⟨KM,r6,DE,Ld,n9,KO,KP,fd⟩:=ZL.C.R.atk DQ;have Fk:=ae fd;have M6:=ae n9;clear fd n9;injection DE with e1;injection e1 with e2;subst e2;refine b _ _ (λ_=>S6) ?_;clear b K ZN
         (try simp only[Act.put,nzL])
         iterate 3
          refine cD 7 rfl rfl (by kernel_rfl) λK b=>?_;go_simp;refine b _ _ (λ_=>S6) ?_;clear b K
          (try simp only[Act.put,nzL])
         refine ah (i:=10) rfl (by kernel_rfl) λK b=>?_;go_simp;refine b _ _ (λh=>absurd rfl h) ?_;have Fd:=(G2.t r6 M6).1;clear b K E S6 Fk M6
         (try simp only[Act.put,nzL])
         refine aX (by kernel_rfl) ?_ _;go_wp2;go_meet;exact⟨r6.1.e,_,rfl,Fd,by omega,ZL⟩
        {go_wp2;go_meet;exact⟨⟨#[97]⟩,_,rfl,by decide,by omega,D9⟩}
       case rest =>
       clear D9;obtain⟨nm,q6,rfl,Fd,hq6,Lh⟩:=hcut;go_wp2_with fail;refine(bm _ _).mono ?_;rintro e wa ⟨rfl,G⟩;have Da:=ae (Lh.aa G);clear G;go_wp2_with fail;refine(aW 12 _).mono ?_;rintro e wb ⟨rfl,G⟩;have Db:=ae (Da.aa G);clear G Da;go_wp2_with fail;refine(gX R _ _ Db.rd (by omega)).mono ?_;rintro e wd ⟨tc,rfl,htc,qc,hqc,hR,hO⟩;have Dd:=ae (Db.F hO hR);clear hO hR Db;go_wp2_with fail;refine(bm tc _).mono ?_;rintro e we ⟨rfl,G⟩;have De:=ae (Dd.aa G);clear G Dd;go_wp2_with fail;refine(aW 2 _).mono ?_;rintro e wf ⟨rfl,G⟩;have Df:=ae (De.aa G);clear G De;go_wp2_with fail;refine(au R _ 9 _ Df.rd (by omega) (by omega) (by omega)).mono ?_;rintro e wg ⟨zf,rfl,hf0,hf1,hR,hO⟩;have Dg:=ae (Df.F hO hR);clear hO hR Df;go_wp2_with fail;refine(bw 3 _ _).mono ?_;rintro e wi ⟨rfl,G⟩;have Di:=ae (Dg.aa G);clear G Dg;go_wp2_with fail;refine(aW 15 _).mono ?_;rintro e wh ⟨rfl,G⟩;have Dh:=ae (Di.aa G);clear G Di;obtain⟨gp,cp,mp,fp,l⟩:=Dh.P;have kh:=l.ab.c0;have zh:=l.ab.fz 0;have lh:=l.ab.lt;have KQ:=ae (l.six (λr hr=>Dh.C.R.ltg r hr) (by have:=Dh.C.lt;omega) nm tc (1+zf) Fd (by omega));have Hx:(wh.setCell (Q D.heap.size 0 U) (Z (T (Q wh.heap.size 0 U)) 6 6)).heap.size=wh.heap.size:=by simp
       have lo10:=l.lo;have Ba:=ae (((dB D.heap.size wh).setCell (p:=(Q D.heap.size 0 U)) ly (Z (T (Q wh.heap.size 0 U)) 6 6)).alloc (by rw[Hx];omega) (N (rA nm tc (1+zf)) 151));have KF:=ae ((Dh.C.putP l.ab l.lo (Z (T (Q wh.heap.size 0 U)) 6 6)).aa (br.alloc ly (N (rA nm tc (1+zf)) 151)));have KX:=ae (Dh.rd.low Ba (by omega));have Lf:=ae (Dh.O.then (Ba.mono (by omega)));clear Ba l Hx;go_wp2;go_meet;exact⟨_,by omega,KF,⟨_,_,_,_,KQ⟩,KX,Lf,ZR⟩
      {go_wp2;go_meet;exact⟨_,by omega,D9⟩}
     case rest =>
     clear D9;obtain⟨q8,hq8,ZO⟩:=hcut;go_wp2_with fail;obtain⟨gp,cp,mp,fp,l⟩:=ZO.P;have PP:=ae l;clear l;have E:Hid (∀V:M,(∀j,j<wc.heap.size->T j≠(Value.slice a1 f.length c1).ownBlock->V.heap[j]?=wc.heap[j]?)->V.heap[w.heap.size+1]?=T (N #[s,Z a1 f.length c1] 27 (0,0))/\A V (Q (w.heap.size+1) 1 U)=T (Z a1 f.length c1)/\A V (Q D.heap.size 0 U)=T (Z (T (Q gp 0 U)) mp cp)):=λV hV=>by
      have h1:=(hV (w.heap.size+1) ZO.C.lt λe=>by have:=(ZO.C.R.i.lt _ e.symm).1;omega).trans ZO.C.G
      have h2:PB V D.heap.size (Z (T (Q gp 0 U)) mp cp):=(hV D.heap.size PP.ab.lt λe=>by
       obtain⟨cur,Kz⟩:=ZO.C.R.type _ e.symm;have h3:=PP.ab.symm.trans Kz
       cases h3).trans PP.ab
      exact⟨h1,by simp[World.cell?,h1],h2.c0⟩
     refine aD (λV=>V.heap[w.heap.size+1]?=T (N #[s,Z a1 f.length c1] 27 (0,0))/\A V (Q (w.heap.size+1) 1 U)=T (Z a1 f.length c1)/\A V (Q D.heap.size 0 U)=T (Z (T (Q gp 0 U)) mp cp)) 10 (by kernel_rfl) ?_;have ZN:=ae (E wc.drew (λj m _=>rfl));iterate 3
      refine aI 0 (v:=?_) rfl rfl (by kernel_rfl) (λ_ _ _ h=>h) rfl ?_ ZN ?_;rotate_left
      ·(rintro wz ⟨s0,s1,s2⟩;go_simp)
       (try with_reducible rfl)
      (try simp only[Act.put,nzL])
     refine aI 5 (v:=?_) rfl rfl (by kernel_rfl) (λ_ _ _ h=>h) rfl ?_ ZN ?_;rotate_left
     ·(rintro wz ⟨s0,s1,s2⟩;go_simp)
      (try with_reducible rfl)
     (try simp only[Act.put,nzL])
     refine ah (i:=3) rfl (by kernel_rfl) λK b=>?_;go_simp;go_at_call 104;refine(iQ j (by omega) _).mono ?_;rintro e wt ⟨rfl,Kv⟩;have BT:Hid (Below wc.heap.size wc wt):=(q9 wc).drew.trans Kv;clear Kv;refine b _ _ (λ_=>E _ (λj m _=>BT.block j m)) ?_;clear b K ZN
     (try simp only[Act.put,nzL])
     refine ah (i:=4) rfl (by kernel_rfl) λK b=>?_;go_simp;refine b _ _ (λ_=>E _ (λj m _=>BT.block j m)) ?_;clear b K
     (try simp only[Act.put,nzL])
     have Kt:((⟨#[116]⟩:ByteArray)++⟨#[dig j]⟩).size<=5000:=by have e1:(⟨#[116]⟩:ByteArray).size=1:=rfl;have e2:(⟨#[dig j]⟩:ByteArray).size=1:=rfl;simp only[IH,e1,e2];omega
     generalize (⟨#[116]⟩:ByteArray)++⟨#[dig j]⟩=tn at Kt ⊢;refine ah (i:=6) rfl (by kernel_rfl) λK b=>?_;go_simp;refine b _ _ (λ_=>E _ (λj m _=>BT.block j m)) ?_;clear b K
     (try simp only[Act.put,nzL])
     refine ah (i:=7) rfl (by kernel_rfl) λK b=>?_;go_simp;have KH:=ZO.C.lt;have hzt:=BT.size;have ZQ:=ae (BT.alloc (by omega) (N #[Y tn,Z (T (Q gp 0 U)) mp cp] 146));have Fm:=ae (ZO.C.aa ZQ);have GS:=ae (PP.aa ZQ ly);have Lo:=ZQ.size;refine b _ _ (λ_=>E _ (λj m _=>ZQ.block j m)) ?_;clear b K
     (try simp only[Act.put,nzL])
     refine ah (i:=8) rfl (by kernel_rfl) λK b=>?_;refine aG rfl (.tmp 101) (.tmp 107) 25 rfl (w.heap.size+2) 146 La (.agg #[Y ⟨#[]⟩,Z U 0 0]) 2 40 QH m Lm Lq Ls rfl (by decide) (Z a1 f.length c1) f.length (f.flatMap bj) (by simp[Act.eval]) Fm.R.i (Q wt.heap.size 0 U) 1 1 (bj (⟨tn,mp,fp⟩,gp,cp)) (by simp[Act.eval]) rfl (λj u hu=>du wt _ _ _ j u hu) (by simp[bj,Value.oneCell']) (by unfold maxLen;omega) (by omega) (by omega) ?_;intro v' w7 H B _;obtain⟨a7,c7,rfl⟩:=aU H;have S7:=ae (E w7 (λj m ZP=>(B.block j (lj m ZQ.size) ZP).trans (ZQ.block j m)));obtain⟨c8,b8⟩:=Fm.addT (x:=⟨tn,mp,fp⟩) (g:=gp) (c:=cp) GS.new GS.i H B;have Lb:=ae c8;have KZ:=ae b8;clear H B c8 b8;refine b _ _ (λ_=>S7) ?_;clear b K
     (try simp only[Act.put,nzL])
     refine ah (i:=9) rfl (by kernel_rfl) λK b=>?_;go_simp;refine b _ _ (λ_=>S7) ?_;clear b K
     (try simp only[Act.put,nzL])
     obtain⟨s7,t7,y7⟩:=S7.out;have f7:w7.frozen? (Q (w.heap.size+1) 1 U)=ZA:=by simp[World.frozen?,s7]
     have l7:=ag s7;clear s7 y7;refine ah (i:=10) rfl (by kernel_rfl) λK b=>?_;go_simp;refine b _ _ (λh=>absurd rfl h) ?_;clear b K
     (try simp only[Act.put,nzL])
     refine aX (by kernel_rfl) ?_ _;go_wp2;have BB:=ae ((ZQ.mono (show w.heap.size+1<=wc.heap.size by omega)).trans KZ.out);go_roundg (n - j);case measure=>omega
     case rel=>exact⟨j+1,q8,Z a7 (f.length+1) c7,f++[((⟨tn,mp,fp⟩,gp,cp):TR)],by omega,by omega,by rw[cM,ZJ.out];rfl,by go_num,Lb,G2.addT (r:=(⟨tn,mp,fp⟩,gp,cp)) Kt PP.num PP.sz,ZO.rd.low BB (by omega),ZO.O.then (BB.mono (F6 _))⟩
    ·obtain rfl:j=n+1:=by omega
     obtain⟨a0,c0,rfl⟩:=aU ZM.src;obtain⟨k0,k1⟩:=ZM.cells;have kr:=ZM.res;have r0:A wr (Q w.heap.size 0 U)=T (Z U 0 0):=by simp[World.cell?,kr]
     have r1:A wr (Q w.heap.size 1 U)=T (Z U 0 0):=by simp[World.cell?,kr]
     have f0:wr.frozen? (Q w.heap.size 0 U)=ZA:=by simp[World.frozen?,kr]
     have f1:wr.frozen? (Q w.heap.size 1 U)=ZA:=by simp[World.frozen?,kr]
     have l0:=ag kr;have l1:=ZM.lt;clear kr;have BE:=ae (((dB w.heap.size wr).setCell (p:=(Q w.heap.size 0 U)) ly (Z a0 o.length c0)).setCell (p:=(Q w.heap.size 1 U)) ly (Z a1 f.length c1));have OE:=ae (aQ (aQ ZM.src (R:=w.heap.size) (j:=0) (by omega) (Z a0 o.length c0)) (R:=w.heap.size) (j:=1) (by omega) (Z a1 f.length c1));have TE:=ae ((ZM.R.set (X:=w.heap.size) (j:=0) (by omega) (Z a0 o.length c0)).set (X:=w.heap.size) (j:=1) (by omega) (Z a1 f.length c1));have ZJ:Hid (f.length=n+1):=sm;clear sm;go_wp2;exact bp (v:=.agg #[Z a0 o.length c0,Z a1 f.length c1]) (by simp[results,results95,go_sem,r0,r1]) rfl ⟨o,f,_,_,rfl,OE,TE,G2,by omega,by have:=ZJ.out;omega,q2,by omega,R2.low BE ZR,O2.then BE⟩
