import Derived.Test.YtoddkejemcbkmaaGreatDoorQO
import Derived.Test.YtoddkejemcbkmaaGreatDoorQC
import Derived.Deep.LoopGhost
set_option maxRecDepth 100000
set_option maxHeartbeats 8000000
open Go renaming Addr.mk->Q,Value.slice->Z,Value.string->U,Value.int->J,Obj.cells->N,IntKind.i64->I,World->M,Value->ZC,Ending.returned->ZF
open Option renaming none->Y,some->T
open Bool renaming false->ZA
namespace Go.Proofs.YtoddkejemcbkmaaGreatDoor.Vp
open Tryz RowKit Ca
variable {w W:M}{R b q:Nat}{l:List Source}
def DF (w:M)(e:Ending)(b:M):Prop:=∃(a0:Option Addr) (n0 c0:Nat) (f0:Nat->Source) (a1:Option Addr) (n1 c1:Nat) (f1:Nat->Target),e=ZF (.agg #[Z a0 n0 c0,Z a1 n1 c1])/\HSp w.heap.size b a0 n0 f0 a1 n1 f1/\Below w.heap.size w b
def DFn (n:Nat)(w:M)(e:Ending)(c:M):Prop:=∃(a0:Option Addr) (n0 c0:Nat) (f0:Nat->Source) (a1:Option Addr) (c1:Nat) (b:List TR),e=ZF (.agg #[Z a0 n0 c0,Z a1 b.length c1])/\b.length=n/\n0<=250/\HSp w.heap.size c a0 n0 f0 a1 b.length (bY (b.map (·.1)))/\TRow c (w.heap.size+1) (Z a1 b.length c1) b/\GX b/\(∀r∈b,r.1.e.size<=5000/\r.1.f=3)/\Below w.heap.size w c
theorem oe (n:Nat)(hn:n<=200)(en:ByteArray)(he:en.size<=5000)(w:M):Calls Tryz.prog 69 #[J I n,U en] w λe w'=>DFn n w e w':=by
 obtain⟨qr,m,ro,At,mv⟩:=LY gO;have ZK:(w.alloc (N #[Z Y 0 0,Z Y 0 0] 44)).heap.size=w.heap.size+1:=by simp
 have aq:((w.alloc (N #[Z Y 0 0,Z Y 0 0] 44)).alloc (N #[U ⟨#[97]⟩,U ⟨#[103,114,111,117,110,100]⟩] 122)).heap.size=w.heap.size+1+1:=by simp
 obtain⟨W2,C⟩:∃W:M,((w.alloc (N #[Z Y 0 0,Z Y 0 0] 44)).alloc (N #[U ⟨#[97]⟩,U ⟨#[103,114,111,117,110,100]⟩] 122)).alloc (N #[Z (T (Q (w.heap.size+1) 0 Y)) 1 1,Z Y 0 0] 44)=W:=⟨_,rfl⟩
 obtain⟨A0,-,-,-,-⟩:=nb3 C;have H:=ae C;clear C;have X1:Hid (SpX w.heap.size (w.heap.size+1+1) (w.heap.size+1) W2 (Z (T (Q (w.heap.size+1) 0 Y)) 1 1) (Z Y 0 0) [⟨⟨#[97]⟩,⟨#[103,114,111,117,110,100]⟩⟩] []):=by rw[<-H.out];have k1:=n6 w (N #[Z Y 0 0,Z Y 0 0] 44);have k2:=n6 (w.alloc (N #[Z Y 0 0,Z Y 0 0] 44)) (N #[U ⟨#[97]⟩,U ⟨#[103,114,111,117,110,100]⟩] 122);rw[ZK] at k2;have BQ:=(eL (w.heap.size+1) (w.alloc (N #[Z Y 0 0,Z Y 0 0] 44))).alloc (by omega) (N #[U ⟨#[97]⟩,U ⟨#[103,114,111,117,110,100]⟩] 122);have h:=xG (LS:=[⟨⟨#[97]⟩,⟨#[103,114,111,117,110,100]⟩⟩]) (base:=w.heap.size+1) (base':=w.heap.size+1) ((BQ.block w.heap.size (AI _)).trans k1) (AI _) ly (by omega) (v0:=Z (T (Q (w.heap.size+1) 0 Y)) 1 1) ⟨rfl,.inr ⟨w.heap.size+1,1,_,rfl,n8 _,k2,n8 _,by unfold maxLen;omega,rfl,rfl⟩⟩ (dd _ _);rw[aq] at h;exact h
 have hw2:IntKind.i64.wrap ((n:Int) - 1)=(n:Int) - 1:=by rw[wA];omega
 clear ZK aq;go_enter func69,ntmps69;go_wp2_with fail;rw[H.out];clear H;obtain⟨q,A,c2,hLS,ZJ⟩:∃(q:List Source) (A:Option Addr) (c2:Nat),q.length<=250/\Hid (SpX w.heap.size (w.heap.size+1+1) (w.heap.size+1) W2 (Z A q.length c2) (Z Y 0 0) q []):=⟨[⟨⟨#[97]⟩,⟨#[103,114,111,117,110,100]⟩⟩],T (Q (w.heap.size+1) 0 Y),1,by show 1<=250;omega,X1⟩
 clear X1;generalize sm:w.heap.size+1+1=xb at ZJ ⊢;clear sm;go_loopw [6] (λi wr=>∃(k:Nat) (v1:ZC) (f:List TR),i=J I k/\k<=n/\f.length=k/\Hid (SpX w.heap.size xb (w.heap.size+1) wr (Z A q.length c2) v1 q f)/\Hid (GX f)/\Hid (∀r∈f,r.1.e.size<=5000/\r.1.f=3)/\Hid (Below w.heap.size w wr)) (λi _=>n - (intOf i).toNat);case atStart=>exact⟨0,_,[],rfl,by omega,rfl,ZJ,λ_ h=>absurd h nj,λ_ h=>absurd h nj,A0⟩
 case round =>
  obtain⟨k,v1,f,rfl,hk,V,D,G2,N2,B2⟩:=hrel;have HK:Hid (f.length=k):=V;obtain⟨ZO,c5,rfl⟩:=aU D.K.i;obtain⟨X,dg⟩:=D.cells;have ld:=D.lt;have hrn:f.length<=200:=by omega
  clear V;by_cases hlt:k<n
  ·have hwk:IntKind.i64.wrap ((k:Int)+1)=(k:Int)+1:=by rw[wA];omega
   go_wp2_with fail;refine(nQ (k+1) (by omega) _).mono ?_;rintro e ZP ⟨nb,rfl,hnb,ZN⟩;have L:=ae (D.aa ZN ly);have B3:=ae (B2.trans (ZN.mono B2.size));obtain⟨X,dg⟩:=L.cells;have ld:=L.lt;clear ZN;by_cases fd:(n:Int) - 1=(k:Int)
   case' pos =>
    go_wp2_with fail;obtain⟨t,o⟩:∃z,z=en:=⟨_,rfl⟩
    have ur:t.size<=5000:=by rw[o];omega
   case' neg =>
    have ph:¬ (k:Int)=(n:Int) - 1:=λe=>fd e.symm;clear fd;go_wp2_with fail;clear ph;obtain⟨t,o⟩:∃z,z=nb:=⟨_,rfl⟩
    have ur:t.size<=5000:=by rw[o];omega
   all_goals
    rw[<-o];have HZ:=ae o;clear o;clear X dg;have B:=ae L.keepT;refine aE (BxT (Z A q.length c2) (Z ZO f.length c5) xb) 14 (by kernel_rfl) ?_;have l:=ae (B ZP.drew (λj m _=>rfl))
    iterate 3
     refine aI 0 (v:=?_) rfl rfl (by kernel_rfl) (λ_ _ _ h=>h) rfl ?_ l ?_;rotate_left
     ·(rintro wz ⟨s0,s1⟩;go_simp)
      (try with_reducible rfl)
     (try simp only[Act.put,nzL])
    refine aI 4 (v:=?_) rfl rfl (by kernel_rfl) (λ_ _ _ h=>h) rfl ?_ l ?_;rotate_left
    ·(rintro wz ⟨s0,s1⟩;go_simp)
     (try with_reducible rfl)
    (try simp only[Act.put,nzL])
    refine ag (i:=3) rfl (by kernel_rfl) λK b=>?_;go_simp;go_at_call 113;refine(nQ k (by omega) _).mono ?_;rintro e wl ⟨G,rfl,htn,ZL⟩;have ZM:Hid (Below ZP.heap.size ZP wl):=(q9 ZP).drew.trans ZL;clear ZL l;have l:=ae (B wl (λj m _=>ZM.block j m));refine b _ _ (λ_=>l) ?_;clear b K
    (try simp only[Act.put,nzL])
    refine ag (i:=5) rfl (by kernel_rfl) λK b=>?_;go_simp;go_at_call 70;refine(bj _ _).mono ?_;rintro e wm ⟨rfl,ZI⟩;have S:=ae (ZM.trans (ZI.mono ZM.size));clear ZI l;have l:=ae (B wm (λj m _=>S.block j m));refine b _ _ (λ_=>l) ?_;clear b K
    (try simp only[Act.put,nzL])
    refine ag (i:=6) rfl (by kernel_rfl) λK b=>?_;go_simp;go_at_call 43;refine(aV _ _).mono ?_;rintro e wo ⟨rfl,la⟩;have P:=ae (S.trans (la.mono S.size));clear la l;have l:=ae (B wo (λj m _=>P.block j m));refine b _ _ (λ_=>l) ?_;clear b K
    (try simp only[Act.put,nzL])
    refine ag (i:=7) rfl (by kernel_rfl) λK b=>?_;go_simp;go_at_call 43;refine(aV _ _).mono ?_;rintro e s ⟨rfl,bt⟩;have BN:=ae (P.trans (bt.mono P.size));clear bt l ZM S P;have hzn:=BN.size;have BI:=ae (BN.alloc (by omega) (N #[J I 1,U t,J I 0,J I 12,U ⟨#[]⟩,J I 0,J I 15,U ⟨#[]⟩,J I 0] 90));have hxi:=L.hi;have OI:=ae (Bh s t (base:=w.heap.size+1) (by omega));have l:=ae (B s (λj m _=>BN.block j m));refine b _ _ (λ_=>l) ?_;clear b K l
    (try simp only[Act.put,nzL])
    have l:=ae (B _ (λj m _=>BI.block j m))
    iterate 3
     refine cB 8 rfl rfl (by kernel_rfl) λK b=>?_;go_simp;refine b _ _ (λ_=>l) ?_;clear b K
     (try simp only[Act.put,nzL])
    have th:(s.alloc (N #[J I 1,U t,J I 0,J I 12,U ⟨#[]⟩,J I 0,J I 15,U ⟨#[]⟩,J I 0] 90)).heap.size=s.heap.size+1:=by simp
    have O:=ae (BI.alloc (by omega) (N #[U G,Z (T (Q s.heap.size 0 Y)) 3 3] 125));refine ag (i:=11) rfl (by kernel_rfl) λK b=>?_;go_simp;have R:=ae (L.aa O ly);have OA:=ae (own_below OI (br.alloc ly (N #[U G,Z (T (Q s.heap.size 0 Y)) 3 3] 125)) ly);refine b _ _ (λ_=>B _ (λj m _=>O.block j m)) ?_;clear b K
    (try simp only[Act.put,nzL])
    refine ag (i:=12) rfl (by kernel_rfl) λK b=>?_;refine aA rfl (.tmp 25) (.tmp 35) 42 rfl (w.heap.size+1) 125 qr (.agg #[U ⟨#[]⟩,Z Y 0 0]) 2 40 OJ m ro At mv rfl (by decide) (Z ZO f.length c5) f.length (f.flatMap bi) (by simp[Act.eval]) R.K.i (Q (s.heap.size+1) 0 Y) 1 1 (bi (⟨G,3,lsI (iY t)⟩,s.heap.size,3)) (by simp[Act.eval]) rfl (λj u hu=>Es (th) _ _ _ j u hu) (by simp[bi,Value.oneCell']) (by unfold maxLen;omega) (by omega) (by have:=R.hi;have:=R.lt;omega) ?_;intro v' w7 E y _;obtain⟨a7,c7,rfl⟩:=aU E;have S7:=ae (B w7 (λj m n9=>(y.block j (lj m O.size) n9).trans (O.block j m)));obtain⟨c8,b8⟩:=R.addT (x:=⟨G,3,lsI (iY t)⟩) (g:=s.heap.size) (c:=3) (λr F e=>by have:=L.K.ltg r F;omega) OA E y;have X9:=ae c8;have B9:=ae b8;clear E y c8 b8;refine b _ _ (λ_=>S7) ?_;clear b K
    (try simp only[Act.put,nzL])
    refine ag (i:=13) rfl (by kernel_rfl) λK b=>?_;go_simp;refine b _ _ (λ_=>S7) ?_;clear b K
    (try simp only[Act.put,nzL])
    obtain⟨s7,t7⟩:=S7.out;have f7:w7.frozen? (Q xb 1 Y)=ZA:=by simp[World.frozen?,s7]
    have l7:=ah s7;clear s7;refine ag (i:=14) rfl (by kernel_rfl) λK b=>?_;go_simp;refine b _ _ (λh=>absurd rfl h) ?_;clear b K
    (try simp only[Act.put,nzL])
    refine aW (by kernel_rfl) ?_ _;have o:=HZ.out;subst o;go_wp2;have BB:=ae ((O.mono (show w.heap.size+1<=ZP.heap.size by omega)).trans B9.out)
    refine⟨⟨k+1,Z a7 (f.length+1) c7,f++[((⟨G,3,lsI (iY t)⟩,s.heap.size,3):TR)],by go_num,by omega,by rw[cM,HK.out];rfl,X9,G2.add (r:=(⟨G,3,lsI (iY t)⟩,s.heap.size,3)) (by show 3<=300;omega) (ze (by omega)),(λr F=>by
     rcases p8.1 F with F|F
     ·exact N2 r F
     ·rw[nL.1 F];exact⟨by show G.size<=5000;omega,rfl⟩),B3.trans (BB.mono (by omega))⟩,by simp[intOf];omega⟩
  ·obtain rfl:k=n:=by omega
   have kr:=D.res;have r0:wr.cell? (Q w.heap.size 0 Y)=T (Z Y 0 0):=by simp[World.cell?,kr]
   have r1:wr.cell? (Q w.heap.size 1 Y)=T (Z Y 0 0):=by simp[World.cell?,kr]
   have f0:wr.frozen? (Q w.heap.size 0 Y)=ZA:=by simp[World.frozen?,kr]
   have f1:wr.frozen? (Q w.heap.size 1 Y)=ZA:=by simp[World.frozen?,kr]
   have l0:=ah kr;clear kr;have BE:=ae ((B2.setCell (p:=(Q w.heap.size 0 Y)) ly (Z A q.length c2)).setCell (p:=(Q w.heap.size 1 Y)) ly (Z ZO f.length c5));have HE:=ae ((D.fin rfl rfl (by omega) (by omega) G2 (Z A q.length c2) (Z ZO f.length c5)).mono (F3 w.heap.size));have TE:=ae ((D.K.set (j:=0) (AI _) (Z A q.length c2)).set (j:=1) (AI _) (Z ZO f.length c5));go_wp2;exact bp (v:=.agg #[Z A q.length c2,Z ZO f.length c5]) (by simp[results,results69,go_sem,r0,r1]) rfl ⟨_,_,_,_,_,_,_,rfl,HK,by omega,HE,TE,G2,N2,BE⟩
def DSp (w:M)(R q j l:Nat)(e:Ending)(c:M):Prop:=∃(b:List Source) (f:List TR) (g h:ZC),e=ZF (.agg #[g,h])/\c.ownsRow (w.heap.size+2) 122 2 g b.length (b.flatMap bI)/\TRow c (w.heap.size+2) h f/\SpG b f/\b.length<=j/\f.length<=l/\∃i:Nat,i<=q/\Rd c R i/\Only R w c
def oY (k:Nat):ByteArray:=(⟨#[97,98,99,100,101,102]⟩:ByteArray).extract k (k+1)
theorem Bi:∀k,k<6->(oY k).size=1:=by decide
structure DP4 (w:M)(R:Nat)(v0 v1:ZC)(LS:List Source)(RT:List TR)(b q:Nat)(W:M):Prop where
 C:SpB w.heap.size W v0 v1 LS RT
 P:∃g c n f,PrG (w.heap.size+2) W RT b g c n f
 rd:Rd W R q
 O:Only R w W
 low:R<w.heap.size
theorem DP4.F{i:M}{r:Nat}{o m:ZC}{p:List TR}(h:DP4 w R o m l p b q W)(j:Only R W i)(hR:Rd i R r):DP4 w R o m l p b r i:=by have hl:=h.low;obtain⟨g,c,n,f,s⟩:=h.P;exact⟨h.C.F j h.low,⟨g,c,n,f,s.F j (by omega)⟩,hR,h.O.trans j,h.low⟩
theorem DP4.aa{o:M}{j p:ZC}{m:List TR}(h:DP4 w R j p l m b q W)(i:Below W.heap.size W o):DP4 w R j p l m b q o:=by obtain⟨g,c,n,f,r⟩:=h.P;exact⟨h.C.aa i,⟨g,c,n,f,r.aa i ly⟩,h.rd.aa i ly,h.O.then (i.mono h.O.size),h.low⟩
theorem zi (R p:Nat)(w:M)(hR:Rd w R p)(hp:p<=10000):Calls Tryz.prog 67 #[.pointer (T (Q R 0 Y))] w λe w'=>DSp w R (p+5100) 6 8 e w':=by
 have HR:=ae hR;have o:=hR.lt;clear hR;have C0:=ae (GI w);obtain⟨W,Fk⟩:∃W:M,(w.alloc (N #[Z Y 0 0,Z Y 0 0] 44)).alloc (N #[Z Y 0 0,Z Y 0 0] 44)=W:=⟨_,rfl⟩
 obtain⟨B0,-,-,-⟩:=nb2 Fk;have Jp:=ae Fk;clear Fk;obtain⟨JR,hi,J4,JY,JZ⟩:=LY lv;obtain⟨JV,m,JE,JQ,JS⟩:=LY gO;go_enter func67,ntmps67;go_wp2_with fail;rw[Jp.out] at C0 ⊢;clear Jp;have R0:=ae (HR.aa B0 ly);have O0:Hid (Only R w W):=Only.u B0;go_loopg [4] 6 (λg i wr=>∃(k q:Nat) (A:ZC) (s:List Source),k+g=6/\q<=p+12*k/\s.length<=k/\i=J I k/\Hid (SpB w.heap.size wr A (Z Y 0 0) s [])/\Hid (SpG s [])/\Hid (Rd wr R q)/\Hid (Only R w wr));case atStart=>exact⟨0,p,_,[],by omega,by omega,n8 _,rfl,C0,GH,R0,O0⟩
 case round =>
  obtain⟨k,q,A,s,hk,hq,JB,rfl,CC,GG,RR,OO⟩:=hrel;by_cases JH:k<6
  ·have J0:IntKind.i64.wrap ((k:Int)+1)=(k:Int)+1:=by rw[wA];omega
   go_wp2_with fail;refine(au R q 5 _ RR (by omega) (by omega) (by omega)).mono ?_;rintro e w1 ⟨z,rfl,Jy,Jz,dg,aq⟩;have C1:=ae (CC.F aq o);have R1:=ae dg;have O1:=ae (OO.trans aq);clear dg aq;by_cases hz:0<z
   ·go_wp2_with fail;refine(gT R _ _ R1 (by omega)).mono ?_;rintro e w2 ⟨t,rfl,ht,q2,J5,Id,DH⟩;have ZP:=ae (C1.F DH o);have R2:=ae Id;have O2:=ae (O1.trans DH);clear Id DH;go_wp2_with fail;refine(au R _ 2 _ R2 (by omega) (by omega) (by omega)).mono ?_;rintro e E ⟨y,rfl,hy0',hy1',n9,S⟩;have C3:=ae (ZP.F S o);have R3:=ae n9;have O3:=ae (O2.trans S);clear n9 S;go_upto_if 22 with fail;go_cut [5] (λs5 ZJ=>∃(tx:ByteArray) (q4:Nat),s5=U tx/\tx.size<=5000/\q4<=q2+3/\Hid (SpB w.heap.size ZJ A (Z Y 0 0) s [])/\Hid (Rd ZJ R q4)/\Hid (Only R w ZJ));case first =>
     by_cases hy:y=0
     ·subst hy;go_wp2_with fail;refine(ef R _ _ R3 (by omega)).mono ?_;rintro e w4 ⟨s1,rfl,hs1,Js,Fd⟩;have C4:=ae (C3.F Fd o);have R4:=ae Js;have O4:=ae (O3.trans Fd);clear Js Fd;go_wp2_with fail;refine(ef R _ _ R4 (by omega)).mono ?_;rintro e w5 ⟨s2,rfl,hs2,ld,bt⟩;have C5:=ae (C4.F bt o);have R5:=ae ld;have O5:=ae (O4.trans bt);clear ld bt;have DQ:(s1++⟨#[32]⟩++s2++⟨#[32]⟩++t).size<=5000:=by have e:(⟨#[32]⟩:ByteArray).size=1:=rfl;simp only[MQ,e];omega
      go_wp2;go_meet;exact⟨_,_,rfl,DQ,by omega,C5,R5,O5⟩
     {go_wp2;go_meet;exact⟨t,_,rfl,by omega,by omega,C3,R3,O3⟩}
    case rest =>
    clear C3 R3 O3;obtain⟨tx,q4,rfl,DQ,JI,C5,R5,O5⟩:=hcut;go_wp2_with fail;have D:Hid (∀V:M,(∀j,j<wc.heap.size->T j≠A.ownBlock->V.heap[j]?=wc.heap[j]?)->V.heap[w.heap.size+1]?=T (N #[A,Z Y 0 0] 44 (0,0))/\V.cell? (Q (w.heap.size+1) 0 Y)=T A):=λV hV=>by have h1:=(hV (w.heap.size+1) C5.lt λe=>by have:=(C5.src.lt _ e.symm).1;omega).trans C5.H;exact⟨h1,by simp[World.cell?,h1]⟩
    refine aE (λV=>V.heap[w.heap.size+1]?=T (N #[A,Z Y 0 0] 44 (0,0))/\V.cell? (Q (w.heap.size+1) 0 Y)=T A) 11 (by kernel_rfl) ?_;have ZN:=ae (D wc.drew (λj m _=>rfl));iterate 5
     refine aI 0 (v:=?_) rfl rfl (by kernel_rfl) (λ_ _ _ h=>h) rfl ?_ ZN ?_;rotate_left
     ·(rintro wz ⟨s0,s1⟩;go_simp)
      (try with_reducible rfl)
     (try simp only[Act.put,nzL])
    refine kf (i:=5) (v:=U (oY k)) rfl (by kernel_rfl) (by kernel_rfl) (by kernel_rfl) (by kernel_rfl) (λ_ _ _ h=>h) rfl ?_ ZN ?_;{intro wz _;go_simp;rw[p7 ⟨by omega,by omega⟩,p7 (by omega)];rfl}
    (try simp only[Act.put,nzL])
    iterate 2
     refine aI 6 (v:=?_) rfl rfl (by kernel_rfl) (λ_ _ _ h=>h) rfl ?_ ZN ?_;rotate_left
     ·(rintro wz ⟨s0,s1⟩;go_simp)
      (try with_reducible rfl)
     (try simp only[Act.put,nzL])
    refine ag (i:=8) rfl (by kernel_rfl) λK b=>?_;go_simp;have J7:=C5.lt;have ZM:=ae (((q9 wc).alloc ly (N #[U (oY k),U tx] 122)).drew);have C6:=ae (C5.aa ZM);have JD:=ZM.size;refine b _ _ (λ_=>D _ (λj m _=>ZM.block j m)) ?_;clear b K ZN
    (try simp only[Act.put,nzL])
    refine ag (i:=9) rfl (by kernel_rfl) λK b=>?_;refine aA rfl (.tmp 33) (.tmp 40) 41 rfl (w.heap.size+2) 122 JR (.agg #[U ⟨#[]⟩,U ⟨#[]⟩]) 2 32 PV hi J4 JY JZ rfl (by decide) A s.length (s.flatMap bI) (by simp[Act.eval]) C6.src (Q wc.heap.size 0 Y) 1 1 (bI ⟨oY k,tx⟩) (by simp[Act.eval]) rfl (λj u hu=>dt wc _ _ _ j u hu) (by simp[bI,Value.oneCell']) (by unfold maxLen;omega) (by omega) (by omega) ?_;intro v' w7 H B _;obtain⟨a7,c7,rfl⟩:=aU H;have S7:=ae (D w7 (λj m ZO=>(B.block j (lj m ZM.size) ZO).trans (ZM.block j m)));obtain⟨c8,b8⟩:=C6.addS H B;have C8:=ae c8;have B8:=ae b8;clear H B c8 b8;refine b _ _ (λ_=>S7) ?_;clear b K
    (try simp only[Act.put,nzL])
    refine ag (i:=10) rfl (by kernel_rfl) λK b=>?_;go_simp;refine b _ _ (λ_=>S7) ?_;clear b K
    (try simp only[Act.put,nzL])
    obtain⟨s7,t7⟩:=S7.out;have f7:w7.frozen? (Q (w.heap.size+1) 0 Y)=ZA:=by simp[World.frozen?,s7]
    have l7:=ah s7;clear s7;refine ag (i:=11) rfl (by kernel_rfl) λK b=>?_;go_simp;refine b _ _ (λh=>absurd rfl h) ?_;clear b K
    (try simp only[Act.put,nzL])
    refine aW (by kernel_rfl) ?_ _;go_wp2;have BB:=ae ((ZM.mono (show w.heap.size+1<=wc.heap.size by omega)).trans B8.out);go_roundg (5 - k);case measure=>omega
    case rel=>exact⟨k+1,q4,Z a7 (s.length+1) c7,s++[(⟨oY k,tx⟩:Source)],by omega,by omega,by rw[cM];exact TZ JB,by go_num,C8,GG.addS (x:=⟨oY k,tx⟩) (by show(oY k).size<=5000;rw[Bi k JH];omega) DQ,R5.low BB (by omega),O5.then (BB.mono (F3 _))⟩
   ·go_wp2;go_roundg (5 - k);case measure=>omega
    case rel=>exact⟨k+1,_,A,s,by omega,by omega,by omega,by go_num,C1,GG,R1,O1⟩
  ·obtain rfl:k=6:=by omega
   go_wp2_with fail;refine(au R q 8 _ RR (by omega) (by omega) (by omega)).mono ?_;rintro e w1 ⟨z,rfl,Jy,Jz,dg,aq⟩;have C1:=ae (CC.F aq o);have R1:=ae dg;have O1:=ae (OO.trans aq);clear dg aq;obtain⟨n,rfl⟩:∃n:Nat,z=(n:Int):=⟨z.toNat,by omega⟩
   go_wp2_with fail;go_loopg [7] (n+1) (λg i wr=>∃(j q:Nat) (v1:ZC) (f:List TR),j+g=n+1/\q<=p+73+620*j/\f.length=j/\i=J I j/\Hid (SpB w.heap.size wr A v1 s f)/\Hid (SpG s f)/\Hid (Rd wr R q)/\Hid (Only R w wr));case atStart=>exact⟨0,_,_,[],by omega,by omega,rfl,rfl,C1,GG,R1,O1⟩
   case round =>
    obtain⟨j,q2,v1,f,hj2,J5,sm,rfl,ZP,G2,R2,O2⟩:=hrel;obtain⟨a1,c1,rfl⟩:=aU ZP.K.i;by_cases hjn:j<n+1
    ·have ZK:Hid (f.length=j):=sm;have hrn:f.length<=8:=by omega
     clear sm;have J0:IntKind.i64.wrap ((j:Int)+1)=(j:Int)+1:=by rw[wA];omega
     go_wp2_with fail;refine(jk R q2 _ R2 (by omega)).mono ?_;rintro e E ⟨L,g,c,rfl,hI,JL,hl2,hT,q3,hq3,n9,S⟩;have hlt2:=ZP.lt;have hs3:=S.size;have C3:=ae (ZP.F S o);obtain⟨W4,qr⟩:∃W:M,E.alloc (N #[Z (T (Q g 0 Y)) L.length c] 59)=W:=⟨_,rfl⟩
     obtain⟨B4,-,-⟩:=nb1 qr;have ro:=ae qr;clear qr;have P4:=ae (Bf (base:=w.heap.size+2) (RT:=f) hI (by omega) (λr hr=>ZP.K.ltg r hr) (by omega) ⟨JL,by omega⟩ hT);have C4:=ae (C3.aa B4);have R4:=ae (n9.aa B4 ly);have O4:=ae ((O2.trans S).then (B4.mono (by omega)));have D4:Hid (DP4 w R A (Z a1 f.length c1) s f E.heap.size q3 W4):=by cases ro.out;exact⟨C4,⟨_,_,_,_,P4⟩,R4,O4,o⟩
     clear n9 S hI hT C3 C4 P4 R4 O4;go_upto_region 15 with fail;rw[ro.out];clear ro;clear B4;go_cut [59] (λJT ZJ=>∃(b1:Bool) (q4:Nat),JT=.bool b1/\(b1=true->0<j)/\q4<=q3+1/\Hid (DP4 w R A (Z a1 f.length c1) s f E.heap.size q4 ZJ));case first =>
      by_cases Fm:0<(j:Int)
      {go_wp2_with fail;refine(au R _ 5 _ D4.rd (by omega) (by omega) (by omega)).mono ?_;rintro e w5 ⟨z5,rfl,h50,h51,ld,bt⟩;have D5:=ae (D4.F bt ld);clear ld bt;go_wp2;go_meet;exact⟨_,_,rfl,λ_=>by omega,by omega,D5⟩};{go_wp2;go_meet;exact⟨_,_,rfl,λh=>by simp at h,by omega,D4⟩}
     case rest =>
     clear D4;obtain⟨b1,q4,rfl,J6,JI,D5⟩:=hcut;go_upto_if 59 with fail;go_cut [] (λZJ=>∃q5:Nat,q5<=q4+1/\Hid (DP4 w R A (Z a1 f.length c1) s f E.heap.size q5 ZJ));case first =>
      cases b1 with
      |true =>
       have Fm:0<(j:Int):=by have:=J6 rfl;omega
       obtain⟨gt,_,rfl,_⟩:=ZP.K.atk (k:=0) (by have:=ZK.out;omega);go_wp2_with fail;have D:Hid (∀V:M,(∀j,j<wc.heap.size->j≠R->V.heap[j]?=wc.heap[j]?)->V.heap[w.heap.size+1]?=T (N #[A,(Z (T (Q gt 0 Y)) f.length c1)] 44 (0,0))/\V.cell? (Q (w.heap.size+1) 1 Y)=T (Z (T (Q gt 0 Y)) f.length c1)):=λV hV=>by have h1:=(hV (w.heap.size+1) D5.C.lt (by omega)).trans D5.C.H;exact⟨h1,by simp[World.cell?,h1]⟩
       refine aE (λV=>V.heap[w.heap.size+1]?=T (N #[A,(Z (T (Q gt 0 Y)) f.length c1)] 44 (0,0))/\V.cell? (Q (w.heap.size+1) 1 Y)=T (Z (T (Q gt 0 Y)) f.length c1)) 11 (by kernel_rfl) ?_;have ZN:=ae (D wc.drew (λj m _=>rfl));iterate 6
        refine aI 0 (v:=?_) rfl rfl (by kernel_rfl) (λ_ _ _ h=>h) rfl ?_ ZN ?_;rotate_left
        ·(rintro wz ⟨s0,s1⟩;go_simp)
         (try with_reducible rfl)
        (try simp only[Act.put,nzL])
       refine ag (i:=6) rfl (by kernel_rfl) λK b=>?_;go_simp;go_at_call 20;refine(au R _ (f.length:Int) _ (D5.rd.aa br.drew ly) (by omega) (by have:=ZK.out;omega) (by omega)).mono ?_;rintro e w6 ⟨z6,rfl,Ka,J9,ph,mv⟩;obtain⟨k6,rfl⟩:∃k6:Nat,z6=(k6:Int):=⟨z6.toNat,by omega⟩
       have Bk:k6<f.length:=by omega
       have ZI:Hid (Only R wc w6):=(Only.u br.drew).trans mv;have ZL:=ae (D5.F ZI ph);clear ph mv;have S6:=ae (D w6 (λj m ZO=>ZI.block j m ZO));obtain⟨JX,r6,DE,JP,la,JC,JM,fd⟩:=ZL.C.K.atk Bk;have DS:=ae fd;have M6:=ae la;clear fd la;injection DE with e1;injection e1 with e2;subst e2;refine b _ _ (λ_=>S6) ?_;clear b K ZN
       (try simp only[Act.put,nzL])
       iterate 3
        refine cB 7 rfl rfl (by kernel_rfl) λK b=>?_;go_simp;refine b _ _ (λ_=>S6) ?_;clear b K
        (try simp only[Act.put,nzL])
       refine ag (i:=10) rfl (by kernel_rfl) λK b=>?_;go_simp;go_at_call 111;refine(je _ _ _ r6.1.G _ (by have:=(G2.t r6 M6).2.1.2;omega) DS).mono ?_;rintro e w7 ⟨g7,c7,rfl,Jv,th⟩;have At:=G2.t r6 M6.out;obtain⟨gp,cp,mp,fp,l⟩:=(ZL.aa th).P;have D7:=ae (ZL.aa th);have P8:=ae (l.put Jv (by have:=ZL.C.lt;omega) (λr hr=>ZL.C.K.ltg r hr) At.2.1 At.2.2);have S7:=ae (D w7 (λj m ZO=>(th.block j (lj m ZI.size)).trans (ZI.block j m ZO)));have k7:=l.ab.c0;have z7:=l.ab.fz 0;have l7:=l.ab.lt;have J8:=l.lo;have B8:=ae ((eL E.heap.size w7).setCell (p:=(Q E.heap.size 0 Y)) ly (Z (T (Q g7 0 Y)) r6.1.f c7));have D8:Hid (DP4 w R A (Z (T (Q gt 0 Y)) f.length c1) s f E.heap.size _ (w7.setCell (Q E.heap.size 0 Y) (Z (T (Q g7 0 Y)) r6.1.f c7))):=⟨D7.C.putP l.ab J8 (Z (T (Q g7 0 Y)) r6.1.f c7),⟨_,_,_,_,P8⟩,D7.rd.low B8 (by omega),D7.O.then (B8.mono (by omega)),o⟩
       clear Jv th At l P8 B8;refine b _ _ (λ_=>S7) ?_;clear b K
       (try simp only[Act.put,nzL])
       refine ag (i:=11) rfl (by kernel_rfl) λK b=>?_;go_simp;refine b _ _ (λh=>absurd rfl h) ?_;clear b K k7 z7
       (try simp only[Act.put,nzL])
       refine aW (by kernel_rfl) ?_ _;go_wp2;go_meet;exact⟨_,by omega,D8⟩
      |false =>go_wp2;go_meet;exact⟨q4,by omega,D5⟩
     case rest =>
     clear D5;obtain⟨q5,hq5,ZL⟩:=hcut;go_wp2_with fail;refine(au R _ 2 _ ZL.rd (by omega) (by omega) (by omega)).mono ?_;rintro e w9 ⟨z9,rfl,h90,h91,GS,Fn⟩;have D9:=ae (ZL.F Fn GS);clear GS Fn ZL;go_upto_if 73 with fail;go_cut [9] (λ_ ZJ=>∃q8:Nat,q8<=q5+12/\Hid (DP4 w R A (Z a1 f.length c1) s f E.heap.size q8 ZJ));case first =>
      by_cases JK:z9=0
      ·subst JK;go_upto_if 75 with fail;go_cut [9] (λs9 ZJ=>∃(nm:ByteArray) (q6:Nat),s9=U nm/\nm.size<=5000/\q6<=q5+2/\Hid (DP4 w R A (Z a1 f.length c1) s f E.heap.size q6 ZJ));case first =>
        by_cases Fm:0<(j:Int)
        ·obtain⟨gt,_,rfl,_⟩:=ZP.K.atk (k:=0) (by have:=ZK.out;omega);go_wp2_with fail;have D:Hid (∀V:M,(∀j,j<w9.heap.size->j≠R->V.heap[j]?=w9.heap[j]?)->V.heap[w.heap.size+1]?=T (N #[A,(Z (T (Q gt 0 Y)) f.length c1)] 44 (0,0))/\V.cell? (Q (w.heap.size+1) 1 Y)=T (Z (T (Q gt 0 Y)) f.length c1)):=λV hV=>by have h1:=(hV (w.heap.size+1) D9.C.lt (by omega)).trans D9.C.H;exact⟨h1,by simp[World.cell?,h1]⟩
         refine aE (λV=>V.heap[w.heap.size+1]?=T (N #[A,(Z (T (Q gt 0 Y)) f.length c1)] 44 (0,0))/\V.cell? (Q (w.heap.size+1) 1 Y)=T (Z (T (Q gt 0 Y)) f.length c1)) 10 (by kernel_rfl) ?_;have ZN:=ae (D w9.drew (λj m _=>rfl));iterate 6
          refine aI 0 (v:=?_) rfl rfl (by kernel_rfl) (λ_ _ _ h=>h) rfl ?_ ZN ?_;rotate_left
          ·(rintro wz ⟨s0,s1⟩;go_simp)
           (try with_reducible rfl)
          (try simp only[Act.put,nzL])
         refine ag (i:=6) rfl (by kernel_rfl) λK b=>?_;go_simp;go_at_call 20;refine(au R _ (f.length:Int) _ (D9.rd.aa br.drew ly) (by omega) (by have:=ZK.out;omega) (by omega)).mono ?_;rintro e w6 ⟨z6,rfl,Ka,J9,ph,mv⟩;obtain⟨k6,rfl⟩:∃k6:Nat,z6=(k6:Int):=⟨z6.toNat,by omega⟩
         have Bk:k6<f.length:=by omega
         have ZI:Hid (Only R w9 w6):=(Only.u br.drew).trans mv;have ZL:=ae (D9.F ZI ph);clear ph mv;have S6:=ae (D w6 (λj m ZO=>ZI.block j m ZO));obtain⟨JX,r6,DE,JP,la,JC,JM,fd⟩:=ZL.C.K.atk Bk;have DS:=ae fd;have M6:=ae la;clear fd la;injection DE with e1;injection e1 with e2;subst e2;refine b _ _ (λ_=>S6) ?_;clear b K ZN
         (try simp only[Act.put,nzL])
         iterate 3
          refine cB 7 rfl rfl (by kernel_rfl) λK b=>?_;go_simp;refine b _ _ (λ_=>S6) ?_;clear b K
          (try simp only[Act.put,nzL])
         refine ag (i:=10) rfl (by kernel_rfl) λK b=>?_;go_simp;refine b _ _ (λh=>absurd rfl h) ?_;have ur:=(G2.t r6 M6).1;clear b K D S6 DS M6
         (try simp only[Act.put,nzL])
         refine aW (by kernel_rfl) ?_ _;go_wp2;go_meet;exact⟨r6.1.e,_,rfl,ur,by omega,ZL⟩
        {go_wp2;go_meet;exact⟨⟨#[97]⟩,_,rfl,by decide,by omega,D9⟩}
       case rest =>
       clear D9;obtain⟨nm,q6,rfl,ur,hq6,JW⟩:=hcut;go_wp2_with fail;refine(bj _ _).mono ?_;rintro e wa ⟨rfl,G⟩;have Da:=ae (JW.aa G);clear G;go_wp2_with fail;refine(aV 12 _).mono ?_;rintro e wb ⟨rfl,G⟩;have Db:=ae (Da.aa G);clear G Da;go_wp2_with fail;refine(gT R _ _ Db.rd (by omega)).mono ?_;rintro e wd ⟨tc,rfl,htc,qc,hqc,hR,hO⟩;have Dd:=ae (Db.F hO hR);clear hO hR Db;go_wp2_with fail;refine(bj tc _).mono ?_;rintro e we ⟨rfl,G⟩;have De:=ae (Dd.aa G);clear G Dd;go_wp2_with fail;refine(aV 2 _).mono ?_;rintro e wf ⟨rfl,G⟩;have Df:=ae (De.aa G);clear G De;go_wp2_with fail;refine(au R _ 9 _ Df.rd (by omega) (by omega) (by omega)).mono ?_;rintro e wg ⟨zf,rfl,hf0,hf1,hR,hO⟩;have Dg:=ae (Df.F hO hR);clear hO hR Df;go_wp2_with fail;refine(bv 3 _ _).mono ?_;rintro e wi ⟨rfl,G⟩;have Di:=ae (Dg.aa G);clear G Dg;go_wp2_with fail;refine(aV 15 _).mono ?_;rintro e wh ⟨rfl,G⟩;have Dh:=ae (Di.aa G);clear G Di;obtain⟨gp,cp,mp,fp,l⟩:=Dh.P;have kh:=l.ab.c0;have zh:=l.ab.fz 0;have lh:=l.ab.lt;have JA:=ae (l.six (λr hr=>Dh.C.K.ltg r hr) (by have:=Dh.C.lt;omega) nm tc (1+zf) ur (by omega));have Jr:(wh.setCell (Q E.heap.size 0 Y) (Z (T (Q wh.heap.size 0 Y)) 6 6)).heap.size=wh.heap.size:=by simp
       have lo10:=l.lo;have Ba:=ae (((eL E.heap.size wh).setCell (p:=(Q E.heap.size 0 Y)) ly (Z (T (Q wh.heap.size 0 Y)) 6 6)).alloc (by rw[Jr];omega) (N (qL nm tc (1+zf)) 90));have JG:=ae ((Dh.C.putP l.ab l.lo (Z (T (Q wh.heap.size 0 Y)) 6 6)).aa (br.alloc ly (N (qL nm tc (1+zf)) 90)));have JU:=ae (Dh.rd.low Ba (by omega));have JJ:=ae (Dh.O.then (Ba.mono (by omega)));clear Ba l Jr;go_wp2;go_meet;exact⟨_,by omega,JG,⟨_,_,_,_,JA⟩,JU,JJ,o⟩
      {go_wp2;go_meet;exact⟨_,by omega,D9⟩}
     case rest =>
     clear D9;obtain⟨q8,hq8,ZQ⟩:=hcut;go_wp2_with fail;obtain⟨gp,cp,mp,fp,l⟩:=ZQ.P;have PP:=ae l;clear l;have D:Hid (∀V:M,(∀j,j<wc.heap.size->T j≠(Value.slice a1 f.length c1).ownBlock->V.heap[j]?=wc.heap[j]?)->V.heap[w.heap.size+1]?=T (N #[A,Z a1 f.length c1] 44 (0,0))/\V.cell? (Q (w.heap.size+1) 1 Y)=T (Z a1 f.length c1)/\V.cell? (Q E.heap.size 0 Y)=T (Z (T (Q gp 0 Y)) mp cp)):=λV hV=>by
      have h1:=(hV (w.heap.size+1) ZQ.C.lt λe=>by have:=(ZQ.C.K.i.lt _ e.symm).1;omega).trans ZQ.C.H
      have h2:PB V E.heap.size (Z (T (Q gp 0 Y)) mp cp):=(hV E.heap.size PP.ab.lt λe=>by
       obtain⟨cur,Jw⟩:=ZQ.C.K.type _ e.symm;have h3:=PP.ab.symm.trans Jw
       cases h3).trans PP.ab
      exact⟨h1,by simp[World.cell?,h1],h2.c0⟩
     refine aE (λV=>V.heap[w.heap.size+1]?=T (N #[A,Z a1 f.length c1] 44 (0,0))/\V.cell? (Q (w.heap.size+1) 1 Y)=T (Z a1 f.length c1)/\V.cell? (Q E.heap.size 0 Y)=T (Z (T (Q gp 0 Y)) mp cp)) 10 (by kernel_rfl) ?_;have ZN:=ae (D wc.drew (λj m _=>rfl));iterate 3
      refine aI 0 (v:=?_) rfl rfl (by kernel_rfl) (λ_ _ _ h=>h) rfl ?_ ZN ?_;rotate_left
      ·(rintro wz ⟨s0,s1,s2⟩;go_simp)
       (try with_reducible rfl)
      (try simp only[Act.put,nzL])
     refine aI 5 (v:=?_) rfl rfl (by kernel_rfl) (λ_ _ _ h=>h) rfl ?_ ZN ?_;rotate_left
     ·(rintro wz ⟨s0,s1,s2⟩;go_simp)
      (try with_reducible rfl)
     (try simp only[Act.put,nzL])
     refine ag (i:=3) rfl (by kernel_rfl) λK b=>?_;go_simp;go_at_call 29;refine(iI j (by omega) _).mono ?_;rintro e wt ⟨rfl,Jt⟩;have BT:Hid (Below wc.heap.size wc wt):=(q9 wc).drew.trans Jt;clear Jt;refine b _ _ (λ_=>D _ (λj m _=>BT.block j m)) ?_;clear b K ZN
     (try simp only[Act.put,nzL])
     refine ag (i:=4) rfl (by kernel_rfl) λK b=>?_;go_simp;refine b _ _ (λ_=>D _ (λj m _=>BT.block j m)) ?_;clear b K
     (try simp only[Act.put,nzL])
     have Hx:((⟨#[116]⟩:ByteArray)++⟨#[dig j]⟩).size<=5000:=by have e1:(⟨#[116]⟩:ByteArray).size=1:=rfl;have e2:(⟨#[dig j]⟩:ByteArray).size=1:=rfl;simp only[MQ,e1,e2];omega
     generalize (⟨#[116]⟩:ByteArray)++⟨#[dig j]⟩=tn at Hx ⊢;refine ag (i:=6) rfl (by kernel_rfl) λK b=>?_;go_simp;refine b _ _ (λ_=>D _ (λj m _=>BT.block j m)) ?_;clear b K
     (try simp only[Act.put,nzL])
     refine ag (i:=7) rfl (by kernel_rfl) λK b=>?_;go_simp;have J7:=ZQ.C.lt;have hzt:=BT.size;have ZM:=ae (BT.alloc (by omega) (N #[U tn,Z (T (Q gp 0 Y)) mp cp] 125));have Jq:=ae (ZQ.C.aa ZM);have Ju:=ae (PP.aa ZM ly);have JD:=ZM.size;refine b _ _ (λ_=>D _ (λj m _=>ZM.block j m)) ?_;clear b K
     (try simp only[Act.put,nzL])
     refine ag (i:=8) rfl (by kernel_rfl) λK b=>?_;refine aA rfl (.tmp 101) (.tmp 107) 42 rfl (w.heap.size+2) 125 JV (.agg #[U ⟨#[]⟩,Z Y 0 0]) 2 40 OJ m JE JQ JS rfl (by decide) (Z a1 f.length c1) f.length (f.flatMap bi) (by simp[Act.eval]) Jq.K.i (Q wt.heap.size 0 Y) 1 1 (bi (⟨tn,mp,fp⟩,gp,cp)) (by simp[Act.eval]) rfl (λj u hu=>dt wt _ _ _ j u hu) (by simp[bi,Value.oneCell']) (by unfold maxLen;omega) (by omega) (by omega) ?_;intro v' w7 H B _;obtain⟨a7,c7,rfl⟩:=aU H;have S7:=ae (D w7 (λj m ZO=>(B.block j (lj m ZM.size) ZO).trans (ZM.block j m)));obtain⟨c8,b8⟩:=Jq.addT (x:=⟨tn,mp,fp⟩) (g:=gp) (c:=cp) Ju.new Ju.i H B;have JF:=ae c8;have JO:=ae b8;clear H B c8 b8;refine b _ _ (λ_=>S7) ?_;clear b K
     (try simp only[Act.put,nzL])
     refine ag (i:=9) rfl (by kernel_rfl) λK b=>?_;go_simp;refine b _ _ (λ_=>S7) ?_;clear b K
     (try simp only[Act.put,nzL])
     obtain⟨s7,t7,y7⟩:=S7.out;have f7:w7.frozen? (Q (w.heap.size+1) 1 Y)=ZA:=by simp[World.frozen?,s7]
     have l7:=ah s7;clear s7 y7;refine ag (i:=10) rfl (by kernel_rfl) λK b=>?_;go_simp;refine b _ _ (λh=>absurd rfl h) ?_;clear b K
     (try simp only[Act.put,nzL])
     refine aW (by kernel_rfl) ?_ _;go_wp2;have BB:=ae ((ZM.mono (show w.heap.size+1<=wc.heap.size by omega)).trans JO.out);go_roundg (n - j);case measure=>omega
     case rel=>exact⟨j+1,q8,Z a7 (f.length+1) c7,f++[((⟨tn,mp,fp⟩,gp,cp):TR)],by omega,by omega,by rw[cM,ZK.out];rfl,by go_num,JF,G2.addT (r:=(⟨tn,mp,fp⟩,gp,cp)) Hx PP.num PP.sz,ZQ.rd.low BB (by omega),ZQ.O.then (BB.mono (F3 _))⟩
    ·obtain rfl:j=n+1:=by omega
     obtain⟨a0,c0,rfl⟩:=aU ZP.src;obtain⟨k0,k1⟩:=ZP.cells;have kr:=ZP.res;have r0:wr.cell? (Q w.heap.size 0 Y)=T (Z Y 0 0):=by simp[World.cell?,kr]
     have r1:wr.cell? (Q w.heap.size 1 Y)=T (Z Y 0 0):=by simp[World.cell?,kr]
     have f0:wr.frozen? (Q w.heap.size 0 Y)=ZA:=by simp[World.frozen?,kr]
     have f1:wr.frozen? (Q w.heap.size 1 Y)=ZA:=by simp[World.frozen?,kr]
     have l0:=ah kr;have l1:=ZP.lt;clear kr;have BE:=ae (((eL w.heap.size wr).setCell (p:=(Q w.heap.size 0 Y)) ly (Z a0 s.length c0)).setCell (p:=(Q w.heap.size 1 Y)) ly (Z a1 f.length c1));have OE:=ae (aP (aP ZP.src (R:=w.heap.size) (j:=0) (by omega) (Z a0 s.length c0)) (R:=w.heap.size) (j:=1) (by omega) (Z a1 f.length c1));have TE:=ae ((ZP.K.set (X:=w.heap.size) (j:=0) (by omega) (Z a0 s.length c0)).set (X:=w.heap.size) (j:=1) (by omega) (Z a1 f.length c1));have ZK:Hid (f.length=n+1):=sm;clear sm;go_wp2;exact bp (v:=.agg #[Z a0 s.length c0,Z a1 f.length c1]) (by simp[results,results67,go_sem,r0,r1]) rfl ⟨s,f,_,_,rfl,OE,TE,G2,by omega,by have:=ZK.out;omega,q2,by omega,R2.low BE o,O2.then BE⟩
