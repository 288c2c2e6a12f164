import Derived.Test.YtamacmnikdejeaaGreatDoorYC
import Derived.Deep.RegionHeld3
set_option maxRecDepth 100000
set_option maxHeartbeats 8000000
open Go.Addr renaming mk->T
open Go.Value renaming slice->Y,string->U,int->I,bool->QT
open Option renaming none->Z,some->N
open Go.Obj renaming cells->Q
open Go.IntKind renaming i64->J
open Go renaming World->H
open Bool renaming false->QQ,true->QR
namespace Go.Proofs.YtamacmnikdejeaaGreatDoor.Vp
open RowKit Go.Maps
def ef (f:Nat->aj)(b:List UInt8->List aQ):Nat->List UInt8->List aQ
 | 0=>b
 | k+1=>fk (ef f b k) (f k)
def ft (g:Nat->Link)(Q2:List UInt8->Told->Prop):Nat->List UInt8->Told->Prop
 | 0=>Q2
 | j+1=>fun s t=>((g j).ask=QQ/\s=(g j).name.toList/\t=iG (g j))∨ft g Q2 j s t
def fu (f:Nat->aj)(b:List UInt8->List aQ):Nat->List UInt8->Told->Prop
 | 0=>fun _ _=>False
 | k+1=>ft (f k).links (fun s t=>(s=(f k).name.toList/\t=fj (ef f b k) (f k))∨fu f b k s t) (f k).linksN
theorem Tale.ka {w g:H}{lo f n B b:Nat}{Q2:List UInt8->Told->Prop}(h:Tale w lo f n Q2)(l:KA B b w g)(hkb:b<lo):Tale g lo f n Q2 :=
 h.blk fun i h1 h2 ⟨es,c,j⟩=>l.blk i h2 (by omega) (fun cs fz e=>by rw[j] at e;cases e)
theorem Tale.below {w c:H}{lo b n B:Nat}{Q2:List UInt8->Told->Prop}(h:Tale w lo b n Q2)(f:Below B w c)(hB:w.heap.size<=B):Tale c lo b n Q2 :=
 h.blk fun i _ h2 _=>f.block i (by omega)
theorem Tale.mono {w:H}{lo b n c:Nat}{Q2:List UInt8->Told->Prop}(h:Tale w lo b n Q2)(hn:n<=c):Tale w lo b c Q2:=h.elim fun G f=>⟨G,f.mono hn⟩
theorem KM.of_below {lo B:Nat}{w c:H}(h:Below B w c)(f:w.heap.size<=B)(b:lo<=w.heap.size):KM lo w c :=
 ⟨h.mono (j4 b f),fun i hi _=>h.block i (lj hi f)⟩
theorem xG {g:Nat->Link}{Q2:List UInt8->Told->Prop}{j:Nat}(h:(g j).ask=QR):∀ s t,ft g Q2 j s t ↔ ft g Q2 (j+1) s t:=fun _ _ =>⟨.inr,fun c=>c.elim (fun b=>by rw[h] at b;exact absurd b.1 (by simp)) id⟩
theorem uV {g:Nat->Link}{Q2:List UInt8->Told->Prop}{j:Nat}(h:(g j).ask=QQ):∀ s t,((s=(g j).name.toList/\t=iG (g j))∨ft g Q2 j s t) ↔ ft g Q2 (j+1) s t:=fun _ _ =>⟨fun c=>c.elim (fun b=>.inl ⟨h,b⟩) .inr,fun c=>c.elim (fun b=>.inl b.2) .inr⟩
theorem pt (A:H)(u n0:Nat)(r:List UInt8->List aQ)(b off n cap:Nat)(f:Nat->aj)(w:H)(hn0:(n0:Int)<=1000)(hn1:1<=n)(hn4:n<=400)(O:∀ p,p<n->(f p).linksN<=200)(mv:∀ i,i<n->eF (f i))(Q2:∀ i,i<n->cS (f i))(hb:Below A.heap.size A w)(QX:RowDeed A b off n f)(h:Acts A w u n0 r):Calls Tryz.prog 50 #[.map (N u),.agg #[Y (N (T b off Z)) n cap]] w fun e w'=>∃ z,e=.returned (.map (N z))/\Tale w' w.heap.size z 100000 (fu f r n)/\Acts A w' u (n0+n) (ef f r n)/\KA A.heap.size u w w':=by
 have P:Hid (u<w.heap.size):=h.lt;have th:=ae O;have HZ:=ae mv;have HM:=ae Q2;have Q9:=ae QX;have HW:=ae hb;have ZB:=ae hb.size;have B0:=ae (((q9 w).alloc ly (Q #[Y (N (T b off Z)) n cap] 25)).alloc (by simp) (.map #[] 0));have T0:=ae (Bt (w.alloc (Q #[Y (N (T b off Z)) n cap] 25)) (lo:=w.heap.size) (by simp));have A0:=ae (h.below B0.out ly);clear O mv Q2 QX hb h;have sm:=@QN Tryz.prog;go_enter Tryz.func50,Tryz.ntmps50;go_wp2;clear sm;obtain⟨z,bt⟩:∃ z,z=(w.alloc (Q #[Y (N (T b off Z)) n cap] 25)).heap.size:=⟨_,rfl⟩
 have aq:w.heap.size+1=z:=by rw[bt];simp
 rw[<-bt] at T0;simp only[aq];clear bt aq;generalize (w.alloc (Q #[Y (N (T b off Z)) n cap] 25)).alloc (.map #[] 0)=W at B0 T0 A0 ⊢;go_loopw [14] (fun i wr=>∃ k:Nat,k<=n/\i=I J k/\Hid (Tale wr w.heap.size z (k*201) (fu f r k))/\Hid (Acts A wr u (n0+k) (ef f r k))/\Hid (KA A.heap.size u w wr)) (fun i _=>n - (intOf i).toNat);case atStart=>exact⟨0,by omega,rfl,by show Tale _ _ _ _ _;simpa[fu] using T0.out,by show Acts _ _ _ _ _;simpa[ef] using A0.out,KA.of_below B0.out ly ZB.out⟩
 case round =>
  obtain⟨k,hk,rfl,HT,HA,HK⟩:=hrel;by_cases E:k<n
  ·obtain⟨o0,o1,o2,o3,⟨a0,o,o4,q4⟩,⟨a1,q,o5,q5⟩⟩:=Q9.out.2 k E
   have ZA:=HW.out.trans HK.out.below;have p0:=(ZA.cell (p:=(T b (off+k*6) Z)) Q9.out.1).trans o0;have p1:=(ZA.cell (p:=(T b (off+k*6+1) Z)) Q9.out.1).trans o1;have p2:=(ZA.cell (p:=(T b (off+k*6+2) Z)) Q9.out.1).trans o2;have p3:=(ZA.cell (p:=(T b (off+k*6+3) Z)) Q9.out.1).trans o3;have p4:=(ZA.cell (p:=(T b (off+k*6+4) Z)) Q9.out.1).trans o4;have p5:=(ZA.cell (p:=(T b (off+k*6+5) Z)) Q9.out.1).trans o5;have Q4:=ae q4;have Q5:=ae q5;have n8:=ae ZA;clear q4 q5 o0 o1 o2 o3 o4 o5 ZA;have O:=th.out k E;have QZ:=ae (show w.heap.size<=wr.heap.size from HK.out.below.size);obtain⟨d,hd⟩:∃ d,d=f k:=⟨_,rfl⟩
   have HD:=ae hd;rw[<-hd] at p0 p1 p2 p3 p4 p5 Q4 Q5 O;clear hd;have M:=ae ((q9 wr).alloc ly (Q #[U d.name,I J d.kind,I J d.code,U d.text,Y a0 d.actN o,Y a1 d.linksN q] 46));have K:=ae (show(wr.alloc (Q #[U d.name,I J d.kind,I J d.code,U d.text,Y a0 d.actN o,Y a1 d.linksN q] 46)).heap[wr.heap.size]?=N (Q #[U d.name,I J d.kind,I J d.code,U d.text,Y a0 d.actN o,Y a1 d.linksN q] 46 (0,0)) from(J5 wr _).1);have E1:=ae (show wr.heap.size<(wr.alloc (Q #[U d.name,I J d.kind,I J d.code,U d.text,Y a0 d.actN o,Y a1 d.linksN q] 46)).heap.size by simp);have T1:=ae (HT.out.below M.out ly);have A1:=ae (HA.out.below M.out ly);have K1:=ae (HK.out.trans (KA.of_below M.out ly (j4 ZB.out QZ.out)));have C1:=ae (n8.out.trans (M.out.mono n8.out.size));have N1:Hid (w.heap.size<=wr.heap.size/\wr.heap.size≠u):=⟨QZ.out,fun e=>by have h1:=QZ.out;have h2:=P.out;omega⟩
   have L1:=ae (j4 QZ.out M.out.size);have F1:=ae ((show d.name.size<=maxLen/\d.text.size<=maxLen/\d.actN<=1048576/\∀ j,j<d.linksN->(d.links j).name.size<=maxLen by rw[HD.out];exact⟨(HZ.out k E).1,(HZ.out k E).2.1,(HM.out k E).1,(HZ.out k E).2.2.2.2⟩));go_wp2_with fail;generalize wr.alloc (Q #[U d.name,I J d.kind,I J d.code,U d.text,Y a0 d.actN o,Y a1 d.linksN q] 46)=G at M K E1 T1 A1 K1 C1 L1 ⊢;clear p0 p1 p2 p3 p4 p5 M;generalize wr.heap.size=m at K E1 N1 ⊢
   have C:=ae (fun(V:H) (g:V.heap[m]?=G.heap[m]?)=>(show V.cell? (T m 0 Z)=N (U d.name)/\V.cell? (T m 1 Z)=N (I J d.kind)/\V.cell? (T m 2 Z)=N (I J d.code)/\V.cell? (T m 3 Z)=N (U d.text)/\V.cell? (T m 4 Z)=N (Y a0 d.actN o)/\V.cell? (T m 5 Z)=N (Y a1 d.linksN q) from by
    rw[K.out] at g
    exact⟨by simp[World.cell?,g],by simp[World.cell?,g],by simp[World.cell?,g],by simp[World.cell?,g],by simp[World.cell?,g],by simp[World.cell?,g]⟩))
   have SA:=ae (fun(V:H) (g:KA A.heap.size u G V)=>(show V.heap[m]?=G.heap[m]? from g.blk m E1.out N1.out.2 (fun cs fz e=>by rw[K.out] at e;simp at e)));have SM:=ae (fun(V QW:H) (g:V.heap[m]?=G.heap[m]?) (hK:KM w.heap.size V QW)=>(show QW.heap[m]?=G.heap[m]? from(hK.blk m (nX.1 (g.trans K.out)).1 (fun es c e=>by rw[g,K.out] at e;cases e)).trans g));have BD:=ae (fun(V:H) (g:Below G.heap.size G V)=>xF A u (n0+k) (ef f r k) d a0 o a1 q V (by omega) F1.out.1 F1.out.2.2.1 (C1.out.trans (g.mono C1.out.size)) Q4.out (A1.out.below g ly));have OK:=ae (BJ (d:=d) A1.out (by omega) F1.out.2.1)
   go_region_held3 (fun V=>V.cell? (T m 0 Z)=N (U d.name)/\V.cell? (T m 1 Z)=N (I J d.kind)/\V.cell? (T m 2 Z)=N (I J d.code)/\V.cell? (T m 3 Z)=N (U d.text)/\V.cell? (T m 4 Z)=N (Y a0 d.actN o)/\V.cell? (T m 5 Z)=N (Y a1 d.linksN q)) (first | exact C.out _ rfl | exact C.out _ (SA.out _ S.out) | exact C.out _ G3.out)
    (first
    | (go_at_call 97;refine(BD.out _ ?_).mono ?_;(first | exact eL _ _ | exact br.drew);rintro e w2 ⟨rfl,qr,x⟩;have S:Hid (KA A.heap.size u G w2):=⟨⟨x.below.os,x.below.tape,x.below.output,x.below.size,x.below.block⟩,x.blk⟩;have A2:=ae qr;clear qr x;have T2:=ae (T1.out.ka S.out P.out);have L2:=ae (j4 L1.out S.out.below.size);have TL:=ae (fun(V:H) (g:Below w2.heap.size w2 V)=>tp w.heap.size z (k*201) (fu f r k) d.name (fj (ef f r k) d) V (by omega) F1.out.1 OK.out (j4 L2.out g.size) (T2.out.below g ly)))
    | (go_at_call 96;refine(TL.out _ ?_).mono ?_;(first | exact eL _ _ | exact br.drew);rintro e w3 ⟨rfl,ro,y⟩;have X:Hid (KM w.heap.size w2 w3):=⟨⟨y.below.os,y.below.tape,y.below.output,y.below.size,y.below.block⟩,y.blk⟩;have T3:=ae ro;clear ro y;have G3:=ae (SM.out w2 w3 (SA.out _ S.out) X.out)))
   go_simp;obtain⟨c0,c1,c2,c3,c4,c5⟩:=C.out _ G3.out;have K3:=ae ((K1.out.trans S.out).then_below ZB.out X.out.below);have A3:=ae (A2.out.km X.out P.out);have L3:=ae (j4 L2.out X.out.below.size);have S3:=ae (show fu f r (k+1)=ft d.links (fun s t=>(s=d.name.toList/\t=fj (ef f r k) d)∨fu f r k s t) d.linksN by rw[HD.out];rfl);have S4:=ae (show ef f r (k+1)=fk (ef f r k) d by rw[HD.out];rfl);clear C SA SM BD TL T1 A1 K1 S A2 T2 L2 X G3 L1 K E1 N1 C1 OK;go_wp2;clear c0 c1 c2 c3 c4 c5;go_loopw [28] (fun i wz=>∃ j:Nat,j<=d.linksN/\i=I J j/\Hid (Tale wz w.heap.size z (k*201+1+j) (ft d.links (fun s t=>(s=d.name.toList/\t=fj (ef f r k) d)∨fu f r k s t) j))/\Hid (KM w.heap.size w3 wz)) (fun i _=>d.linksN - (intOf i).toNat);case atStart=>exact⟨0,by omega,rfl,by show Tale _ _ _ _ _;simpa[ft] using T3.out,KM.refl _ _⟩
   case round =>
    obtain⟨j,hj,rfl,n9,F⟩:=hrel;have D5:=ae (HW.out.trans (K3.out.below.trans (F.out.below.mono ZB.out)));by_cases la:j<d.linksN
    ·obtain⟨b4,off4,rfl,fd⟩:=(Q5.out.below D5.out ly).resolve_left (by omega)
     obtain⟨r0,r1,r2,r3⟩:=fd.2 j la;clear fd;have ph:=F1.out.2.2.2 j la;obtain⟨l,hl⟩:∃ l,l=d.links j:=⟨_,rfl⟩
     have HL:=ae hl;rw[<-hl] at r0 r1 r2 r3 ph;clear hl;have Q0:=ae ((q9 wr).alloc ly (Q #[U l.name,QT l.ask,QT l.has,I J l.at_] 129));have L5:=ae (j4 L3.out F.out.below.size);have R:=ae (F.out.trans (KM.of_below Q0.out ly L5.out));have T5:=ae (n9.out.below Q0.out ly);have L:=ae (show(wr.alloc (Q #[U l.name,QT l.ask,QT l.has,I J l.at_] 129)).heap[wr.heap.size]?=N (Q #[U l.name,QT l.ask,QT l.has,I J l.at_] 129 (0,0)) from(J5 wr _).1);have E5:=ae (show wr.heap.size<(wr.alloc (Q #[U l.name,QT l.ask,QT l.has,I J l.at_] 129)).heap.size by simp);cases hask:l.ask with
     | true =>rw[hask] at r1 Q0 R T5 L E5;have HQ:=ae (show(d.links j).ask=QR by rw[<-HL.out];exact hask);clear hask;go_wp2;exact⟨⟨j+1,by omega,by go_num,(T5.out.mono (by omega)).congr (xG HQ.out),R.out⟩,by simp[intOf];omega⟩
     | false =>
      rw[hask] at r1 Q0 R T5 L E5;have HQ:=ae (show(d.links j).ask=QQ by rw[<-HL.out];exact hask);have QY:=xE l;rw[hask] at QY;have BL:=ae QY;clear hask QY;go_wp2_with fail;generalize wr.alloc (Q #[U l.name,QT QQ,QT l.has,I J l.at_] 129)=W5 at Q0 R T5 L E5 ⊢;clear r0 r1 r2 r3;generalize wr.heap.size=ge at L E5 Q0 L5 ⊢;have L6:=ae (j4 L3.out R.out.below.size)
      have C:=ae (fun(V:H) (g:V.heap[ge]?=W5.heap[ge]?)=>(show V.cell? (T ge 0 Z)=N (U l.name)/\V.cell? (T ge 1 Z)=N (QT QQ)/\V.cell? (T ge 2 Z)=N (QT l.has)/\V.cell? (T ge 3 Z)=N (I J l.at_) from by
       rw[L.out] at g
       exact⟨by simp[World.cell?,g],by simp[World.cell?,g],by simp[World.cell?,g],by simp[World.cell?,g]⟩))
      have SM:=ae (fun(V QW:H) (g:V.heap[ge]?=W5.heap[ge]?) (hK:KM w.heap.size V QW)=>(show QW.heap[ge]?=W5.heap[ge]? from(hK.blk ge (nX.1 (g.trans L.out)).1 (fun es c e=>by rw[g,L.out] at e;cases e)).trans g))
      go_region_held3 (fun V=>V.cell? (T ge 0 Z)=N (U l.name)/\V.cell? (T ge 1 Z)=N (QT QQ)/\V.cell? (T ge 2 Z)=N (QT l.has)/\V.cell? (T ge 3 Z)=N (I J l.at_)) (first | exact C.out _ rfl | exact C.out _ G6.out | exact C.out _ G7.out)
       (first
       | (go_at_call 98;refine(BL.out _).mono ?_;rintro e w6 ⟨rfl,D⟩;have B6:Hid (Below W5.heap.size W5 w6):=⟨D.os,D.tape,D.output,D.size,D.block⟩;clear D;have G6:=ae (B6.out.block ge E5.out);have TL:=ae (fun(V:H) (g:Below w6.heap.size w6 V)=>tp w.heap.size z (k*201+1+j) _ l.name (iG l) V (by omega) ph (BH l) (j4 (j4 L6.out B6.out.size) g.size) ((T5.out.below B6.out ly).below g ly)))
       | (go_at_call 96;refine(TL.out _ ?_).mono ?_;(first | exact eL _ _ | exact br.drew);rintro e w7 ⟨rfl,ld,B⟩;have M7:Hid (KM w.heap.size w6 w7):=⟨⟨B.below.os,B.below.tape,B.below.output,B.below.size,B.below.block⟩,B.blk⟩;have T7:=ae ld;clear ld B;have G7:=ae (SM.out w6 w7 G6.out M7.out)))
      go_simp;have M8:=ae (R.out.trans ((KM.of_below B6.out ly L6.out).trans M7.out));clear C SM TL BL;go_wp2;refine⟨⟨j+1,by omega,by go_num,T7.out.congr ?_,M8.out⟩,by simp[intOf];omega⟩;rw[HL.out];exact uV HQ.out
    ·obtain rfl:j=d.linksN:=by omega
     go_wp2;refine⟨⟨k+1,by omega,by go_num,?_,?_,?_⟩,by simp[intOf];omega⟩
     ·show Tale _ _ _ _ _
      rw[S3.out];exact n9.out.mono (by omega)
     ·show Acts _ _ _ _ _
      rw[S4.out];exact A3.out.km F.out P.out
     ·exact K3.out.then_below ZB.out F.out.below
  ·obtain rfl:k=n:=by omega
   go_wp2;go_ret;exact⟨z,rfl,HT.out.mono (by omega),HA.out,HK.out⟩
end Go.Proofs.YtamacmnikdejeaaGreatDoor.Vp
namespace Go.Proofs.YtamacmnikdejeaaGreatDoor.Vp
open RowKit
theorem BK {x y:Ins}:iX x y=QR ↔ x=y:=by
 unfold iX;constructor
 ·intro h
  simp only[gB] at h;obtain⟨⟨h1,h2⟩,b⟩:=h;cases x;cases y
  simp only[Ins.mk.injEq];exact⟨by simpa using h1,xk h2,by simpa using b⟩
 ·rintro rfl
  simp
theorem zB {f g:Nat->Ins}{n:Nat}:cA f g n=QR ↔ ∀ i,i<n->f i=g i:=by
 induction n with
 | zero=>exact⟨fun _ i h=>absurd h (JP _),fun _=>rfl⟩
 | succ n b =>
  rw[cA,gB,b,BK];constructor
  ·rintro⟨h1,h2⟩ i hi
   by_cases e:i=n
   ·subst e;exact h2
   ·exact h1 i (by omega)
  ·exact fun h=>⟨fun i hi=>h i (by omega),h n (by omega)⟩
theorem fE {f g:Nat->Ins}{n m:Nat}:bu f g n m=QR ↔ n=m/\∀ i,i<n->f i=g i:=by unfold bu;rw[gB,zB];simp
theorem xH (p:aQ):dC p p=QR:=fE.2 ⟨rfl,fun _ _=>rfl⟩
theorem pu {p q:aQ}(h:dC p q=QR):dC q p=QR:=by obtain⟨h1,h2⟩:=fE.1 h;exact fE.2 ⟨h1.symm,fun i hi=>(h2 i (by omega)).symm⟩
theorem kw {p q r:aQ}(h:dC p q=QR)(k:dC q r=QR):dC p r=QR:=by obtain⟨h1,h2⟩:=fE.1 h;obtain⟨b,c⟩:=fE.1 k;exact fE.2 ⟨h1.trans b,fun i hi=>(h2 i hi).trans (c i (by omega))⟩
theorem uW {p q:aQ}(h:dC p q=QR)(r:aQ):dC r p=dC r q:=by
 cases e:dC r q with
 | true=>exact kw e (pu h)
 | false =>
  cases e':dC r p with
  | false=>rfl
  | true=>rw[kw e' h] at e;cases e
theorem ts {b:List aQ}{p q:aQ}(c:numOf b p<b.length)(g:numOf b q<b.length):(numOf b p=numOf b q) ↔ dC p q=QR:=by
 constructor
 ·intro h
  have h1:dC (b[numOf b p]) p=QR:=List.findIdx_getElem (w:=c);have h2:dC (b[numOf b q]) q=QR:=List.findIdx_getElem (w:=g);have e:b[numOf b p]=b[numOf b q]:=by simp only[h]
  rw[e] at h1;exact kw (pu h1) h2
 ·intro h
  unfold numOf;exact JN (fun f=>List.findIdx f b) (funext fun r=>uW h r)
theorem ri {b rs:List aQ}{p:aQ}(h:numOf b p<b.length):numOf (b++rs) p=numOf b p:=by have c:b.findIdx (fun q=>dC q p)<b.length:=h;unfold numOf;rw[List.findIdx_append,gA c]
theorem xI {b:List aQ}{p:aQ}(h:numOf b p=b.length):numOf (b++[p]) p=b.length:=by have c:b.findIdx (fun q=>dC q p)=b.length:=h;unfold numOf;rw[List.findIdx_append,eI (by rw[c];omega)];simp[List.findIdx_cons,xH]
theorem zC (b:List aQ)(p:aQ):numOf (jW b p) p=numOf b p/\numOf b p<(jW b p).length:=by
 unfold jW;by_cases h:numOf b p<b.length
 ·rw[gA h]
  exact⟨rfl,h⟩
 ·have h1:numOf b p=b.length:=by have:=tq b p;omega
  rw[eI h,xI h1,h1];simp
def ExtK (K b:List UInt8->List aQ):Prop:=∀ s,∃ r,b s=K s++r
theorem ExtK.refl (K:List UInt8->List aQ):ExtK K K:=fun s=>⟨[],by simp⟩
theorem ExtK.trans {K c b:List UInt8->List aQ}(h:ExtK K c)(k:ExtK c b):ExtK K b:=fun s=>by obtain⟨r,h⟩:=h s;obtain⟨f,k⟩:=k s;exact⟨r++f,by rw[k,h,JM]⟩
theorem jX (K:List UInt8->List aQ)(d:aj):ExtK K (fk K d):=by
 intro s;unfold fk;split
 ·unfold ij
  split
  ·unfold jW
   split
   ·exact⟨[],by simp⟩
   ·exact⟨_,rfl⟩
  ·exact⟨[],by simp⟩
 ·exact⟨[],by simp⟩
theorem rj (f:Nat->aj)(b:List UInt8->List aQ):∀ n,ExtK b (ef f b n)
 | 0=>ExtK.refl _
 | n+1=>(rj f b n).trans (jX _ _)
def ik (K:List UInt8->List aQ)(s:List UInt8)(x:Tl):Told :=
 if x.kind=1 then ⟨1,x.text,0⟩ else if x.kind=3 then ⟨3,⟨#[]⟩,(numOf (K s) (x.actN,x.act):Nat)⟩ else if x.kind=4 then ⟨0,⟨#[]⟩,0⟩ else ⟨2,⟨#[]⟩,0⟩
def InK (K:List UInt8->List aQ)(s:List UInt8)(x:Tl):Prop:=x.kind=3->numOf (K s) (x.actN,x.act)<(K s).length
theorem InK.ext {K c:List UInt8->List aQ}{s:List UInt8}{x:Tl}(h:InK K s x)(i:ExtK K c):InK c s x/\ik c s x=ik K s x:=by
 obtain⟨r,f⟩:=i s;refine⟨fun g=>?_,?_⟩
 ·rw[f,ri (h g)]
  have:=h g;simp;omega
 ·unfold ik
  by_cases h1:x.kind=1
  ·rw[gA h1,gA h1]
  ·rw[eI h1,eI h1]
   by_cases b:x.kind=3
   ·rw[gA b,gA b,f,ri (h b)]
   ·rw[eI b,eI b]
structure nF (x:Tl):Prop where
 kind:x.kind=1∨x.kind=2∨x.kind=3∨x.kind=4∨x.kind=5
 none:x.kind≠3->x.actN=0
 text:x.kind≠1->x.text=⟨#[]⟩
theorem xJ (l:Link):nF (dZ l):=by
 unfold dZ;by_cases h:l.has=QR
 ·rw[gA h]
  exact⟨by simp,fun _=>rfl,fun _=>rfl⟩
 ·rw[eI h]
  exact⟨by simp,fun _=>rfl,fun _=>rfl⟩
theorem rm (K:List UInt8->List aQ)(s:List UInt8)(l:Link):ik K s (dZ l)=iG l:=by
 unfold dZ iG ik;by_cases h:l.has=QR
 ·simp[h]
 ·simp[h]
theorem BP (K:List UInt8->List aQ)(s:List UInt8)(l:Link):InK K s (dZ l):=by
 unfold dZ InK;by_cases h:l.has=QR
 ·simp[h]
 ·simp[h]
theorem BR {f:Nat->aj}{n:Nat}(h:aZ f n=QR):∀ p,p<n->((f p).kind=1/\(f p).actN=0)∨((f p).kind=2/\(f p).actN=0)∨(f p).kind=3:=by
 intro p c;have h1:=dM (dX h).2.2 p c;simp only[bi,gB,kindOk] at h1;obtain⟨_,h2⟩:=h1;split at h2
 ·rename_i b
  simp[aP] at h2;exact .inl ⟨b,h2.1.2⟩
 ·split at h2
  ·rename_i b
   simp[aP] at h2;exact .inr (.inl ⟨b,h2.1.1.2⟩)
  ·split at h2
   ·rename_i b
    exact .inr (.inr b)
   ·simp at h2
theorem xK {d:aj}(h:(d.kind=1/\d.actN=0)∨(d.kind=2/\d.actN=0)∨d.kind=3):nF (dY d):=by
 unfold dY;refine⟨?_,fun b=>?_,fun b=>?_⟩
 ·simp only
  omega
 ·simp only at b ⊢
  omega
 ·simp only at b ⊢
  rw[eI b]
theorem mP {K:List UInt8->List aQ}{d:aj}(h:(d.kind=1/\d.actN=0)∨(d.kind=2/\d.actN=0)∨d.kind=3):ik (fk K d) d.name.toList (dY d)=fj K d/\InK (fk K d) d.name.toList (dY d):=by
 unfold dY ik fj InK;simp only;rcases h with ⟨h,-⟩ | ⟨h,-⟩ | h
 ·simp[h]
 ·simp[h]
 ·have h1:¬ d.kind=1:=by omega
  rw[eI h1,gA h,eI h1,gA h];have e:fk K d d.name.toList=jW (K d.name.toList) (d.actN,d.act):=by unfold fk ij;rw[gA h,gA rfl]
  have h2:=zC (K d.name.toList) (d.actN,d.act);rw[e,h2.1];exact⟨rfl,fun _=>h2.2⟩
theorem xL {g:Nat->Link}{Q2:List UInt8->Told->Prop}{s:List UInt8}{t:Told}{K:List UInt8->List aQ}(j:Nat):ft g Q2 j s t ↔ Q2 s t∨∃ x∈cD g s j,t=ik K s x:=by
 induction j with
 | zero=>simp[ft,cD]
 | succ j i =>
  rw[cD];show(((g j).ask=QQ/\s=(g j).name.toList/\t=iG (g j))∨ft g Q2 j s t) ↔ _;rw[i];constructor
  ·rintro(⟨h1,h2,f⟩ | h | ⟨x,b,h⟩)
   ·refine .inr ⟨dZ (g j),J4 _ ?_,by rw[rm];exact f⟩
    rw[gA ⟨h2.symm,h1⟩];exact eT.2 rfl
   ·exact .inl h
   ·exact .inr ⟨x,JK _ b,h⟩
  ·rintro(h | ⟨x,b,h⟩)
   ·exact .inr (.inl h)
   ·rcases hU.1 b with b | b
    ·exact .inr (.inr ⟨x,b,h⟩)
    ·split at b
     ·rename_i c
      rw[eT] at b;subst b;rw[rm] at h;exact .inl ⟨c.2,c.1.symm,h⟩
     ·cases b
theorem lE {g:Nat->Link}{s:List UInt8}{j:Nat}{x:Tl}(h:x∈cD g s j):∃ i,i<j/\x=dZ (g i)/\(g i).name.toList=s:=by
 induction j with
 | zero=>cases h
 | succ j c =>
  rw[cD] at h;rcases hU.1 h with h | h
  ·obtain⟨i,hi,e⟩:=c h
   exact⟨i,by omega,e⟩
  ·split at h
   ·rename_i b
    rw[eT] at h;exact⟨j,by omega,h,b.1⟩
   ·cases h
theorem tu {f:Nat->aj}{s:List UInt8}{k:Nat}(c:∀ p,p<k->((f p).kind=1/\(f p).actN=0)∨((f p).kind=2/\(f p).actN=0)∨(f p).kind=3):∀ x∈aJ f s k,nF x:=by
 induction k with
 | zero=>intro x b;cases b
 | succ k g =>
  intro x b;rw[aJ] at b;rcases hU.1 b with b | b
  ·rcases hU.1 b with b | b
   ·exact g (fun p hp=>c p (by omega)) x b
   ·split at b
    ·rw[eT] at b
     subst b;exact xK (c k (by omega))
    ·cases b
  ·obtain⟨i,_,rfl,_⟩:=lE b
   exact xJ _
theorem gQ {f:Nat->aj}{j:List UInt8->List aQ}{s:List UInt8}{k:Nat}(c:∀ p,p<k->((f p).kind=1/\(f p).actN=0)∨((f p).kind=2/\(f p).actN=0)∨(f p).kind=3):∀ x∈aJ f s k,InK (ef f j k) s x:=by
 induction k with
 | zero=>intro x b;cases b
 | succ k h =>
  intro x b;rw[aJ] at b;rcases hU.1 b with b | b
  ·rcases hU.1 b with b | b
   ·exact((h (fun p hp=>c p (by omega)) x b).ext (jX _ (f k))).1
   ·split at b
    ·rename_i g
     rw[eT] at b;subst b;rw[<-g];exact(mP (c k (by omega))).2
    ·cases b
  ·obtain⟨i,_,rfl,_⟩:=lE b
   exact BP _ _ _
theorem xM {f:Nat->aj}{i:List UInt8->List aQ}{s:List UInt8}{t:Told}{k:Nat}(g:∀ p,p<k->((f p).kind=1/\(f p).actN=0)∨((f p).kind=2/\(f p).actN=0)∨(f p).kind=3):fu f i k s t ↔ ∃ x∈aJ f s k,t=ik (ef f i k) s x:=by
 induction k with
 | zero=>simp[fu,aJ]
 | succ k l =>
  have c:∀ p,p<k->((f p).kind=1/\(f p).actN=0)∨((f p).kind=2/\(f p).actN=0)∨(f p).kind=3:=fun p hp=>g p (by omega);rw[fu,xL (K:=ef f i (k+1)),l c];constructor
  ·rintro((⟨h1,h2⟩ | ⟨x,b,h⟩) | ⟨x,b,h⟩)
   ·refine⟨dY (f k),?_,?_⟩
    ·rw[aJ]
     refine JK _ (J4 _ ?_);rw[gA h1.symm];exact eT.2 rfl
    ·rw[h1]
     exact h2.trans (mP (g k (by omega))).1.symm
   ·refine⟨x,?_,?_⟩
    ·rw[aJ]
     exact JK _ (JK _ b)
    ·exact h.trans ((gQ c x b).ext (jX _ (f k))).2.symm
   ·exact⟨x,by rw[aJ];exact J4 _ b,h⟩
  ·rintro⟨x,b,h⟩
   rw[aJ] at b;rcases hU.1 b with b | b
   ·rcases hU.1 b with b | b
    ·exact .inl (.inr ⟨x,b,h.trans ((gQ c x b).ext (jX _ (f k))).2⟩)
    ·split at b
     ·rename_i j
      rw[eT] at b;subst b;rw[<-j] at h;exact .inl (.inl ⟨j.symm,h.trans (mP (g k (by omega))).1⟩)
     ·cases b
   ·exact .inr ⟨x,b,h⟩
theorem pw {K:List UInt8->List aQ}{s:List UInt8}{x y:Tl}(b:nF x)(f:nF y)(o:InK K s x)(m:InK K s y):gP (ik K s x) (ik K s y)=cy x y:=by
 have g:x.kind=3->y.kind=3->(((numOf (K s) (x.actN,x.act):Nat):Int) == ((numOf (K s) (y.actN,y.act):Nat):Int))=bu x.act y.act x.actN y.actN:=by
  intro h1 h2;have:=ts (o h1) (m h2);cases e:bu x.act y.act x.actN y.actN with
  | true =>have l:=this.2 e;rw[l];simp
  | false =>
   have l:¬ numOf (K s) (x.actN,x.act)=numOf (K s) (y.actN,y.act):=fun h=>by have:=this.1 h;unfold dC at this;rw[e] at this;cases this
   have n:¬ ((numOf (K s) (x.actN,x.act):Nat):Int)=(numOf (K s) (y.actN,y.act):Nat):=by omega
   simpa using n
 have j:x.kind≠3->y.kind≠3->bu x.act y.act x.actN y.actN=QR:=fun h1 h2=>by rw[b.none h1,f.none h2];exact fE.2 ⟨rfl,fun i hi=>absurd hi (JP _)⟩
 have p:x.kind≠1->y.kind≠1->x.text=y.text:=fun h1 h2=>by rw[b.text h1,f.text h2]
 unfold gP ik cy de;rcases b.kind with a | a | a | a | a<;>rcases f.kind with c | c | c | c | c;all_goals simp only[a,c,QE,PC,Int.reduceEq,Int.reduceBEq,Int.reduceLT,decide_true,decide_false,QG,Bool.or_false,LP,Bool.and_false,LA,MW,Bool.not_true,Bool.not_false,bne_self_eq_false,Bool.false_eq_true,Bool.bne_true,Bool.bne_false]
 ·rw[j (by omega) (by omega),LP]
 ·exact MH _
 ·exact MH _
 ·rw[g a c,p (by omega) (by omega),MH,MH]
 ·exact MH _
 ·exact MH _
end Go.Proofs.YtamacmnikdejeaaGreatDoor.Vp
