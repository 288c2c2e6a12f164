import Derived.Test.YtamacmnikdejeaaGreatDoorPC
import Derived.Test.YtamacmnikdejeaaGreatDoorQX
import Derived.Test.YtamacmnikdejeaaGreatDoorRW
set_option maxRecDepth 100000
set_option maxHeartbeats 16000000
set_option linter.unusedSimpArgs false
open Go.Addr renaming mk->N
open Go.Value renaming slice->Y,string->U,int->J,agg->QG
open Option renaming none->Z,some->T
open Go.Obj renaming cells->Q
open Go.IntKind renaming i64->I
open Go renaming World->G
open Bool renaming false->QB,true->QD
open Go.Ending renaming returned->QF
namespace Go.Proofs.YtamacmnikdejeaaGreatDoor.Vp
open RowKit
theorem rT (a:Option Addr)(n cap:Nat)(f:Nat->ah)(g:Option Addr)(n0 m:Nat)(f0:Nat->Source)(j:Option Addr)(n1 o:Nat)(f1:Nat->Target)(w:G)(hn:(n:Int)<=1048576)(hn0:(n0:Int)<=1048576)(hn1:(n1:Int)<=1048576)(hv:SlDeed w a n f)(X:(n:Int)<=cap)(QP:∀ i,i<n->dJ (f i))(P:SlSource w g n0 f0)(S:SlTarget w j n1 f1)(R:∀ i,i<n1->bk (f1 i))(B:Tab w)(QR:Tab2 w)(C:Pow w):Calls Tryz.prog 23 #[QG #[Y a n cap],QG #[Y g n0 m,Y j n1 o]] w fun e w'=>e=QF (.tuple #[J I (ft n0 f0 n1 f1 f n).1,J I (ft n0 f0 n1 f1 f n).2])/\Below w.heap.size w w':=by
 have HV:=ae hv;have HM:=ae QP;have O:=ae P;have QL:=ae S;have QM:=ae R;have QO:=ae B;have la:=ae QR;have aq:=ae C;have bt:=QR.1;clear hv QP P S R B QR C;have z:=ae (((q9 w).alloc ly (Q #[Y a n cap] 25)).alloc (by simp) (Q #[Y g n0 m,Y j n1 o] 29));have k0:((w.alloc (Q #[Y a n cap] 25)).alloc (Q #[Y g n0 m,Y j n1 o] 29)).cell? (N w.heap.size 0 Z)=T (Y a n cap):=by simp[go_sem]
 have k1:((w.alloc (Q #[Y a n cap] 25)).alloc (Q #[Y g n0 m,Y j n1 o] 29)).cell? (N (w.heap.size+1) 0 Z)=T (Y g n0 m):=by simp[go_sem]
 have k2:((w.alloc (Q #[Y a n cap] 25)).alloc (Q #[Y g n0 m,Y j n1 o] 29)).cell? (N (w.heap.size+1) 1 Z)=T (Y j n1 o):=by simp[go_sem]
 have hz:w.heap.size+1<((w.alloc (Q #[Y a n cap] 25)).alloc (Q #[Y g n0 m,Y j n1 o] 29)).heap.size:=by simp
 obtain⟨s,t,B⟩:∃ s t,ft n0 f0 n1 f1 f n=(s,t):=⟨_,_,rfl⟩
 rw[B];have L:=ae (show(if aK f n=QD then (if bh n0 f0 n1 f1=0 then fs (eo n0 f0 n1 f1 f) n else (1,0)) else (1,0))=(s,t) from B);clear B;go_enter Tryz.func23,Tryz.ntmps23;go_wp2_with fail;generalize (w.alloc (Q #[Y a n cap] 25)).alloc (Q #[Y g n0 m,Y j n1 o] 29)=W at z k0 k1 k2 hz ⊢;refine(ja a n cap f _ hn (HV.out.below z.out ly) X HM.out (QO.out.below z.out QO.out.1)).mono ?_;rintro e w1 ⟨rfl,l⟩;have A:=ae (z.out.trans (l.mono z.out.size));have l0:=(l.cell (p:=(N w.heap.size 0 Z)) (by show w.heap.size<_;omega)).trans k0;have l1:=(l.cell (p:=(N (w.heap.size+1) 0 Z)) hz).trans k1;have l2:=(l.cell (p:=(N (w.heap.size+1) 1 Z)) hz).trans k2;have y:w.heap.size+1<w1.heap.size:=lj hz l.size;clear l z k0 k1 k2 hz;have HO:=ae (fun h:aK f n=QD=>(⟨eB h,h⟩:(1<=n/\n<=400/\aF (aW f) n=-1)/\aK f n=QD));obtain⟨r,QH⟩:∃ r,r=aK f n:=⟨_,rfl⟩
 rw[<-QH] at L ⊢;have QN:=ae QH;clear QH;cases r with
 | false =>
  obtain⟨rfl,rfl⟩:(1:Int)=s/\(0:Int)=t:=by have:=L.out;simpa using this
  go_wp2;go_ret2;exact⟨rfl,A.out⟩
 | true =>
  have K:=ae (show(if bh n0 f0 n1 f1=0 then fs (eo n0 f0 n1 f1 f) n else (1,0))=(s,t) by have:=L.out;simpa using this);obtain⟨⟨hn1',hn4,-⟩,E⟩:=HO.out QN.out.symm;have V:=ae E;clear L HO E QN;obtain⟨b,off,rfl,H⟩:=HV.out.resolve_left (by omega);have HR:=ae H;clear HV H;go_wp2_with fail;refine(rC g n0 m f0 j n1 o f1 _ hn0 hn1 (O.out.below A.out ly) (QL.out.below A.out ly) QM.out (QO.out.below A.out QO.out.1)).mono ?_;rintro e w2 ⟨rfl,l⟩;have QJ:=ae (A.out.trans (l.mono A.out.size));have m0:=(l.cell (p:=(N w.heap.size 0 Z)) (by show w.heap.size<_;omega)).trans l0;have m1:=(l.cell (p:=(N (w.heap.size+1) 0 Z)) y).trans l1;have m2:=(l.cell (p:=(N (w.heap.size+1) 1 Z)) y).trans l2;have hz2:w.heap.size+1<w2.heap.size:=lj y l.size;clear l l0 l1 l2 y;have QK:=ae (fun h:bh n0 f0 n1 f1=0=>qC h);obtain⟨c,hc⟩:∃ c,c=bh n0 f0 n1 f1:=⟨_,rfl⟩
  rw[<-hc] at K ⊢;have M:=ae hc;clear hc;by_cases D:c=0
  ·subst D
   have HG:=ae (show fs (eo n0 f0 n1 f1 f) n=(s,t) by have:=K.out;simpa using this);obtain⟨x,u,hfew⟩:=QK.out M.out.symm;have fd:=ae x;have ex:=ae u;clear K QK M x u;have q:=ae (QJ.out.alloc QJ.out.size (Q #[J I 2,.func (.func 70) #[] #[],J I 3,.func (.func 71) #[] #[],J I 4,.func (.func 39) #[] #[],J I 5,.func (.func 40) #[] #[]] 80));go_wp2_with fail;refine(rP b off n cap w2.heap.size g n0 m f0 j n1 o f1 f _ (by omega) hn0 hn1 V.out (HR.out.below q.out ly) (O.out.below q.out ly) (QL.out.below q.out ly) fd.out ex.out (fun i hi=>(HM.out i hi).1) (fun i hi=>(HM.out i hi).2) QM.out (la.out.below q.out bt) (aq.out.below q.out ly) (by simp) (by simp) (by simp) (by simp) (by simp) (by simp) (by simp) (by simp) (by simp)).mono ?_;rintro e w3 ⟨rfl,l⟩;have B3:=ae (q.out.trans (l.mono q.out.size));clear l;rw[HG.out];go_wp2;go_ret2;exact⟨rfl,B3.out⟩
  ·obtain⟨rfl,rfl⟩:(1:Int)=s/\(0:Int)=t:=by have:=K.out;simpa[D] using this
   have hc2:(c == 0)=QB:=by simpa using D
   go_wp2;go_ret2;exact⟨rfl,QJ.out⟩
end Go.Proofs.YtamacmnikdejeaaGreatDoor.Vp
namespace Go.Proofs.YtamacmnikdejeaaGreatDoor.Vp
open RowKit Go.Sort
end Go.Proofs.YtamacmnikdejeaaGreatDoor.Vp
namespace Go.Proofs.YtamacmnikdejeaaGreatDoor.Vp
open RowKit Ca
theorem pD {S:Spc}{a a0 a1:Option Addr}{n cap c0 c1:Nat}{f:Nat->ah}(w:G)(hn:(n:Int)<=1048576)(hn0:S.n0<=1048576)(hn1:S.n1<=1048576)(r:SlDeed w a n f)(o:(n:Int)<=cap)(h:∀ i,i<n->dJ (f i))(j:SlSource w a0 S.n0 S.f0)(m:SlTarget w a1 S.n1 S.f1)(l:∀ i,i<S.n1->bk (S.f1 i))(p:Tab w)(g:Tab2 w)(s:Pow w):Calls Tryz.prog 10 #[QG #[Y a n cap],QG #[Y a0 S.n0 c0,Y a1 S.n1 c1]] w fun e x=>e=QF (J I (ft S.n0 S.f0 S.n1 S.f1 f n).1)/\Below w.heap.size w x:=by have b:=ae (((q9 w).alloc ly (Q #[Y a n cap] 25)).alloc (by simp) (Q #[Y a0 S.n0 c0,Y a1 S.n1 c1] 29));have C:=ae (rT a n cap f a0 S.n0 c0 S.f0 a1 S.n1 c1 S.f1 _ hn (by omega) (by omega) (r.below b ly) o h (j.below b ly) (m.below b ly) l (p.below b p.1) (g.below b g.1) (s.below b ly));clear r j m h l p g s;generalize ft S.n0 S.f0 S.n1 S.f1 f n=q at C ⊢;go_enter Tryz.func10,Tryz.ntmps10;go_wp2_with fail;refine C.mono ?_;rintro e w1 ⟨rfl,t⟩;have u:=ae (b.trans (t.mono b.size));clear t;go_wp2;go_ret;exact⟨rfl,u⟩
theorem Ev {S:Spc}{f:Nat->ah}{n:Nat}(h:(ft S.n0 S.f0 S.n1 S.f1 f n).1=0):aK f n=QD/\fk f n=(0,0)/\0<n/\(aX S (f (n - 1)).name).1.length=n/\aK (dF (aO S (aX S (f (n - 1)).name).1)) n=QD/\(∀ p,p<n->Borne S (dF (aO S (aX S (f (n - 1)).name).1)) p)/\(ft S.n0 S.f0 S.n1 S.f1 (dF (aO S (aX S (f (n - 1)).name).1)) n).1=0:=by
 have b:aK f n=QD:=by
  cases e:aK f n with
  | true=>rfl
  | false =>unfold ft at h;rw[e,cM (by simp)] at h;cases h
 obtain⟨o,m⟩:=(qt (S:=S) b).1 h;obtain⟨s1,j⟩:=(mH (S:=S) b).2 h;have i:=xt j b;have g:=fun p l=>pt b j l (m p l);exact⟨b,Bz b m,by have:=eB b;omega,s1,i,g,(qt (S:=S) i).2 ⟨o,g⟩⟩
theorem BJ {f:Nat->ah}{m n:Nat}{t:ByteArray}(b:m<n)(h:¬ t.size<=2000):fk (cB f m t) n=(1,0):=by unfold fk;rw[cM];intro g;have:=(cF g m b).1;rw[mW] at this;exact h this
theorem Ew {L:List ah}{k:Nat}(b:k<L.length)(t:ByteArray):dF (L.set k { dF L k with text:=t })=cB (dF L) k t:=by
 funext i;unfold cB;split
 ·rename_i e
  subst e;simp[dF,b]
 ·rename_i e
  simp[dF,JO (fun h=>e h.symm)]
theorem BK (a:Option Addr)(n cap:Nat)(w:G)(h1:1048576<(n:Int)):Calls Tryz.prog 3 #[Y a n cap] w fun e b=>e=QF (.bool QD)/\Below w.heap.size w b:=by go_enter Tryz.func3,Tryz.ntmps3;go_wp2;go_ret;exact⟨rfl,a8 _ _⟩
theorem uT (a:Option Addr)(n cap:Nat)(w:G)(hc:n<=cap)(hS:ByteSl w a n)(hT:Tab w)(ur:Tab2 w)(hP:Pow w):Calls Tryz.prog 3 #[Y a n cap] w fun e w'=>e=QF (.bool QD)/\Below w.heap.size w w':=by
 by_cases Bk:1048576<(n:Int)
 ·exact BK a n cap w Bk
 have QM:=ae (fun V (y:Below w.heap.size w V)=>(⟨hT.below y hT.1,ur.below y ur.1,hP.below y ly⟩:Tab V/\Tab2 V/\Pow V));have DM:=ae (rS a n cap w (by omega) hc hS);clear hT ur hP hS hc;go_enter Tryz.func3,Tryz.ntmps3;go_wp2_with fail;refine DM.out.mono ?_;rintro e w1 ⟨a0,n0,c0,f0,a1,n1,c1,f1,d,QN,QH,f,rfl,hH,hA,-,Fl⟩;clear DM Bk;have hn0:=hH.hn0;have hn1:=hH.hn1;have hN:=hA.hn;have hcap:=hA.cap;have At:=ae (show ∀ i,i<n1->bk (f1 i) from fun i hi=>by have:=(hH.fit i hi).1;unfold bk;omega);have Fh:=ae (show ∀ i,i<n1->∀ j,j<(f1 i).actN->((f1 i).act j).s.size<=maxLen from fun i hi j hj=>by have:=(hH.fit i hi).2 j hj;unfold maxLen;omega);have n6:=ae (fun i hi=>(hA.fit i hi).fits);have E9:=ae (fun i hi=>(hA.fit i hi).sized);have E:=ae (Eu (c0:=c0) (c1:=c1) hH hA Fl);clear hH hA Fl;go_upto_region 4 with fail;generalize (w1.alloc (Q #[Y d QN QH] 25)).alloc (Q #[Y a0 n0 c0,Y a1 n1 c1] 29)=W1 at E ⊢;generalize w1.heap.size+1=sb at E ⊢;generalize w1.heap.size=ab at E ⊢;have PF:Hid _:=Ev (S:=⟨n0,f0,n1,f1⟩) (f:=f) (n:=QN);have CF:=ae (fun V (y:Lw w ab sb d QN QH f a0 n0 c0 f0 a1 n1 c1 f1 V)=>jI d QN QH f V (by omega) y.dd (by omega) n6 (QM.out V y.b).1 (QM.out V y.b).2.1 (QM.out V y.b).2.2);have CG:=ae (fun V (y:Lw w ab sb d QN QH f a0 n0 c0 f0 a1 n1 c1 f1 V)=>pB d QN QH f V (by omega) y.dd n6 E9);have QJ:=ae (fun V (y:Lw w ab sb d QN QH f a0 n0 c0 f0 a1 n1 c1 f1 V)=>pD (S:=⟨n0,f0,n1,f1⟩) (a:=d) (n:=QN) (cap:=QH) (c0:=c0) (c1:=c1) (f:=f) V (by omega) (by show n0<=_;omega) (by show n1<=_;omega) y.dd (by omega) n6 y.s0 y.s1 At (QM.out V y.b).1 (QM.out V y.b).2.1 (QM.out V y.b).2.2);simp only at PF QJ;generalize fk f QN=q at PF CF CG;obtain⟨q1,q2⟩:=q;generalize (ft n0 f0 n1 f1 f QN).1=C at PF QJ;have P:=E.ax.c0;go_wp2_with fail;refine(CF.out _ E).mono ?_;rintro e w2 ⟨rfl,A⟩;replace E:=ae (E.out.below A);clear A P CF;have P:=E.ax.c0;go_wp2_with fail;refine(CG.out _ E).mono ?_;rintro e w3 ⟨rfl,A⟩;replace E:=ae (E.out.below A);clear A P CG;obtain⟨y0,y1,P⟩:=E.out.c;go_wp2_with fail;refine(QJ.out _ E).mono ?_;rintro e QK ⟨rfl,A⟩;replace E:=ae (E.out.below A);clear A P y0 y1 QJ;by_cases hC:C=0;case neg =>
  have hc:(C == 0)=QB:=by simpa using hC
  have B9:=ae E.b;go_wp2;go_ret;exact⟨rfl,B9⟩
 obtain⟨Fp,hq,Fo,n8,Ff,Fn,Fg⟩:=PF.out hC;obtain⟨rfl,rfl⟩:=Prod.mk.inj hq;subst hC;clear hq PF;have HL:=ae n8;have mv:=ae Ff;have DQ:=ae Fn;have DE:=ae Fg;clear n8 Ff Fn Fg Fp;have hnz:¬ ((QN:Int)=0):=by omega
 have CR:=ae (fun V (y:Below QK.heap.size QK V)=>zo d QN QH f V Fo (by omega) (E.out.below y).dd);have CM:=ae (fun V (y:Below QK.heap.size QK V)=>mG (S:=⟨n0,f0,n1,f1⟩) (a0:=a0) (a1:=a1) (c0:=c0) (c1:=c1) V (f (QN - 1)).name (E.out.below y).s0 (E.out.below y).s1 (by show n0<=_;omega) (by show n1<=_;omega) At Fh);have MF:=ae (tP ⟨n0,f0,n1,f1⟩ (f (QN - 1)).name);generalize (f (QN - 1)).name=t at CR CM HL mv DQ DE MF;have P:=E.ax.c0;go_upto_region 12 with fail;go_cut [9] (fun s wx=>∃ (bb:Nat) (db:Option Addr) (Nb M:Nat),s=.pointer (T (N bb 0 Z))/\Hid (MkD QK ⟨n0,f0,n1,f1⟩ t bb db Nb M wx));case first =>
  go_wp2_with fail;refine wp_region_held_drew (S:=fun V=>V.cell? (N sb 0 Z)=T (Y a0 n0 c0)/\V.cell? (N sb 1 Z)=T (Y a1 n1 c1)/\V.cell? (N ab 0 Z)=T (Y d QN QH)) (by as_aux_lemma=>kernel_rfl) (E.out.below br.drew).c (fun hS=>?_);have z:=ae hS;have o:Hid (RgM QK QK.drew Z Z):=⟨br.drew,(fun _ _ e=>by cases e),(fun _ _ e=>by cases e)⟩
  clear hS;generalize QK.drew=v at o z ⊢
  iterate 2
   refine bB 0 (v:=?_) rfl rfl (by as_aux_lemma=>kernel_rfl) (fun _ _ _ h=>h) rfl ?_ z.out ?_;rotate_left
   ·(intro wz QP;obtain⟨s0,s1,s2⟩:=QP;go_simp)
    (try with_reducible rfl)
   (try simp only[Act.put,nzL])
  repeat' first
   | (guard_hyp QR;(fail_if_success guard_hyp T4);refine bB 4 (v:=?_) rfl rfl (by as_aux_lemma=>kernel_rfl) (fun _ _ _ h=>h) rfl ?_ z.out ?_;rotate_left;(focus (intro wz QP;obtain⟨s0,s1,s2⟩:=QP;go_simp;(try with_reducible rfl);done));(try simp only[Act.put,nzL]);have T4:=True.intro)
   | (guard_hyp T4;(fail_if_success guard_hyp T5);refine bB 5 (v:=?_) rfl rfl (by as_aux_lemma=>kernel_rfl) (fun _ _ _ h=>h) rfl ?_ z.out ?_;rotate_left;(focus (intro wz QP;obtain⟨s0,s1,s2⟩:=QP;go_simp;(try with_reducible rfl);done));(try simp only[Act.put,nzL]);have T5:=True.intro)
   | (guard_hyp T5;(fail_if_success guard_hyp T6);refine bB 6 (v:=?_) rfl rfl (by as_aux_lemma=>kernel_rfl) (fun _ _ _ h=>h) rfl ?_ z.out ?_;rotate_left;(focus (intro wz QP;obtain⟨s0,s1,s2⟩:=QP;go_simp;(try with_reducible rfl);done));(try simp only[Act.put,nzL]);have T6:=True.intro)
   | ((fail_if_success guard_hyp QL);(fail_if_success guard_hyp QO);(fail_if_success guard_hyp L);refine oE (i:=2) (j:=7) (m:=8) rfl rfl rfl (by as_aux_lemma=>kernel_rfl) (fun K l=>?_) (fun K l=>?_) (fun K l=>?_))
   | ((fail_if_success guard_hyp QL);guard_hyp QO;(fail_if_success guard_hyp L);refine iU (i:=2) (j:=8) rfl rfl (by as_aux_lemma=>kernel_rfl) (fun K l=>?_) (fun K l=>?_))
   | ((fail_if_success guard_hyp QL);guard_hyp L;(fail_if_success guard_hyp QO);refine iU (i:=2) (j:=7) rfl rfl (by as_aux_lemma=>kernel_rfl) (fun K l=>?_) (fun K l=>?_))
   | ((fail_if_success guard_hyp QL);guard_hyp QO;guard_hyp L;refine aR (i:=2) rfl (by as_aux_lemma=>kernel_rfl) (fun K l=>?_))
   | (guard_hyp QL;(fail_if_success guard_hyp QR);(fail_if_success guard_hyp QO);(fail_if_success guard_hyp L);refine oE (i:=3) (j:=7) (m:=8) rfl rfl rfl (by as_aux_lemma=>kernel_rfl) (fun K l=>?_) (fun K l=>?_) (fun K l=>?_))
   | (guard_hyp QL;(fail_if_success guard_hyp QR);guard_hyp QO;(fail_if_success guard_hyp L);refine iU (i:=3) (j:=8) rfl rfl (by as_aux_lemma=>kernel_rfl) (fun K l=>?_) (fun K l=>?_))
   | (guard_hyp QL;(fail_if_success guard_hyp QR);guard_hyp L;(fail_if_success guard_hyp QO);refine iU (i:=3) (j:=7) rfl rfl (by as_aux_lemma=>kernel_rfl) (fun K l=>?_) (fun K l=>?_))
   | (guard_hyp QL;(fail_if_success guard_hyp QR);guard_hyp QO;guard_hyp L;refine aR (i:=3) rfl (by as_aux_lemma=>kernel_rfl) (fun K l=>?_))
   | (guard_hyp T6;(fail_if_success guard_hyp QO);(fail_if_success guard_hyp L);refine iU (i:=7) (j:=8) rfl rfl (by as_aux_lemma=>kernel_rfl) (fun K l=>?_) (fun K l=>?_))
   | (guard_hyp T6;guard_hyp QO;(fail_if_success guard_hyp L);refine aR (i:=8) rfl (by as_aux_lemma=>kernel_rfl) (fun K l=>?_))
   | (guard_hyp T6;guard_hyp L;(fail_if_success guard_hyp QO);refine aR (i:=7) rfl (by as_aux_lemma=>kernel_rfl) (fun K l=>?_))
   | (guard_hyp T6;guard_hyp QO;guard_hyp L;(fail_if_success guard_hyp T9);refine aR (i:=9) rfl (by as_aux_lemma=>kernel_rfl) (fun K l=>?_))
   | (guard_hyp T9;(fail_if_success guard_hyp Fk);refine aR (i:=10) rfl (by as_aux_lemma=>kernel_rfl) (fun K l=>?_))
   | (guard_hyp Fk;refine wpAnyH_done (by as_aux_lemma=>kernel_rfl) ?_ _;clear z;go_wp2;go_meet;exact⟨_,_,_,_,rfl,R,rfl,Ft,QR,o.b,(o.a _ _ rfl).1,(o.a _ _ rfl).2⟩)
   | ((fail_if_success guard_hyp QL);go_simp;go_at_call 12;refine(CR.out _ o.b).mono ?_;rintro e v2 ⟨rfl,A⟩;replace o:=ae (o.out.below A);clear A z;have z:=ae (E.out.below o.b).c;refine l _ _ z.out ?_;clear l K;obtain⟨v,rfl⟩:∃ x,x=v2:=⟨_,rfl⟩;(try simp only[Act.put,nzL]);have QL:=True.intro)
   | (guard_hyp QL;(fail_if_success guard_hyp QR);go_simp;go_at_call 11;refine(CM.out _ o.b).mono ?_;rintro e v2 ⟨db,M,R,rv,rfl,hD,B,⟨ra,rk,rfl,-⟩,A⟩;(generalize (aX ⟨n0,f0,n1,f1⟩ t).2=rs);have QR:=ae (hD.low o.b.size);have Ft:=ae B;replace o:=ae (o.out.below A);clear A z hD B;have z:=ae (E.out.below o.b).c;refine l _ _ z.out ?_;clear l K;obtain⟨v,rfl⟩:∃ x,x=v2:=⟨_,rfl⟩;(try simp only[Act.put,nzL]))
   | ((fail_if_success guard_hyp QO);(try replace QR:=ae (QR.out.agr (dh ((q9 v).alloc ly (Q #[Y Z 0 0] 25)) ly)));replace o:=ae (o.out.newA #[Y Z 0 0]);clear z;have z:=ae (E.out.below o.b).c;go_simp;refine l _ _ z.out ?_;clear l K;obtain⟨p7,H⟩:∃ x,v.heap.size=x:=⟨_,rfl⟩;rw[H] at o ⊢;clear H;obtain⟨v,H⟩:∃ x,v.alloc (Q #[Y Z 0 0] 25)=x:=⟨_,rfl⟩;rw[H] at o z ⊢;(try rw[H] at QR);clear H;(try simp only[Act.put,nzL]);have QO:=True.intro)
   | ((fail_if_success guard_hyp L);(try replace QR:=ae (QR.out.agr (dh ((q9 v).alloc ly (Q #[J I 0,U ⟨#[]⟩,Y Z 0 0] 37)) ly)));replace o:=ae (o.out.newR #[J I 0,U ⟨#[]⟩,Y Z 0 0]);clear z;have z:=ae (E.out.below o.b).c;go_simp;refine l _ _ z.out ?_;clear l K;obtain⟨p8,H⟩:∃ x,v.heap.size=x:=⟨_,rfl⟩;rw[H] at o ⊢;clear H;obtain⟨v,H⟩:∃ x,v.alloc (Q #[J I 0,U ⟨#[]⟩,Y Z 0 0] 37)=x:=⟨_,rfl⟩;rw[H] at o z ⊢;(try rw[H] at QR);clear H;(try simp only[Act.put,nzL]);have L:=True.intro)
   | ((fail_if_success guard_hyp T9);obtain⟨ph,DS,CD⟩:=o.out.cA;replace QR:=ae (o.out.dA QR (Y db R.length M));replace o:=ae (o.out.setA (Y db R.length M));clear z;have z:=ae (E.out.below o.b).c;go_simp;clear ph DS CD;refine l _ _ z.out ?_;clear l K;obtain⟨v,H⟩:∃ x,v.setCell (N p7 0 Z) (Y db R.length M)=x:=⟨_,rfl⟩;rw[H] at o z QR ⊢;clear H;(try simp only[Act.put,nzL]);have T9:=True.intro)
   | (guard_hyp T9;obtain⟨ph,DS,CD,Fu,FA,Fz,Fw⟩:=o.out.cR;replace QR:=ae (o.out.dR (u0:=J I rs.code) (u1:=U rs.text) (u2:=Y ra rs.chain.length rk) QR);replace o:=ae (o.out.endR (J I rs.code) (U rs.text) (Y ra rs.chain.length rk));clear z;have z:=ae (E.out.below o.b).c;go_simp;clear ph DS CD Fu FA Fz Fw;refine l _ _ z.out ?_;clear l K;(try simp only[Act.put,nzL]);have Fk:=True.intro)
 case rest =>
 clear P CR CM;obtain⟨bb,db,Nb,M,rfl,MD⟩:=hcut;generalize wc=W5 at MD ⊢;obtain⟨R,ld,B,hD,A,hbb,Fc⟩:=MD.out;clear MD;have Fd:R.length=QN:=(by have:=BC List.length B;simpa[aO] using this:R.length=_).trans HL;obtain rfl:QN=Nb:=Fd.symm.trans ld;obtain⟨m,n9⟩:∃ m,m+1=QN:=⟨QN - 1,by omega⟩
 have Fa:m<QN:=by omega
 have hw1:IntKind.i64.wrap ((QN:Int) - 1)=(m:Int):=by rw[kP];omega
 have hm0:¬ (m:Int)<0:=by omega
 have hmi:(m:Int)<(QN:Int):=by omega
 have KA:=ae Fc;have B5:=ae A;have hkb:=Br hD.own;obtain⟨g,Fy,e⟩:=dr hD.own (by omega);obtain⟨rfl,-,-⟩:=KI e;clear e Fy;have Fx:=(hD.own.lt g rfl).1;obtain⟨r,hr,Fj⟩:=cU (R:=R) (i:=m) (by omega);have HR:=ae hr;have O:=ae hD.rw;have Fb:=ae Fj;have la:Hid (∀ V,DRw V QK.heap.size (Y (T (N g 0 Z)) QN M) R->V.ownsRow QK.heap.size 46 6 (Y (T (N g 0 Z)) R.length M) R.length (R.flatMap ddV)):=fun V h=>by have h:=h.own;rw[<-ld] at h;exact h
 have aq:=ae ld;have X:dF (aO ⟨n0,f0,n1,f1⟩ (aX ⟨n0,f0,n1,f1⟩ t).1) m=r.1:=by rw[<-B];exact fJ hr
 have ex:Hid (∀ tx,dF ((R.set m ({ r.1 with text:=tx },r.2)).map (·.1))=cB (dF (aO ⟨n0,f0,n1,f1⟩ (aX ⟨n0,f0,n1,f1⟩ t).1)) m tx):=fun tx=>by rw[List.map_set,<-B,<-Ew (by rw[JN];omega),B,X]
 have ro:=ae (fun i (hi:i<QN)=>show FitD (dF (aO ⟨n0,f0,n1,f1⟩ (aX ⟨n0,f0,n1,f1⟩ t).1) i) by
  obtain⟨r2,Fv,FC⟩:=cU (R:=R) (i:=i) (by omega);rw[<-B,fJ Fv]
  exact(MF.out _ (by rw[<-B];exact LP FC)).1)
 have Fm:=(ro.out m Fa).tx;rw[X] at Fm;have PB:Hid (r.1.kind=3->∀ tx:ByteArray,tx.size<=2000->tx.size=r.1.text.size+1->fk (cB (dF (aO ⟨n0,f0,n1,f1⟩ (aX ⟨n0,f0,n1,f1⟩ t).1)) m tx) QN=(5,(m:Int))):=fun hk tx h2 h3=>BD mv DQ n9 (by rw[X];exact hk) (by rw[X];intro e;have:=BC List.length e;rw[IX,IX,JI,JI] at this;have h3':tx.data.size=r.1.text.data.size+1:=h3;omega) h2;have PA:Hid (∀ tx:ByteArray,tx.size=r.1.text.size+1->¬ (ft n0 f0 n1 f1 (cB (dF (aO ⟨n0,f0,n1,f1⟩ (aX ⟨n0,f0,n1,f1⟩ t).1)) m tx) QN).1=0):=fun tx h3=>BH (S:=⟨n0,f0,n1,f1⟩) mv DE n9 (by rw[X];intro e;rw[e] at h3;omega);have PO:Hid (∀ tx:ByteArray,¬ tx.size<=2000->fk (cB (dF (aO ⟨n0,f0,n1,f1⟩ (aX ⟨n0,f0,n1,f1⟩ t).1)) m tx) QN=(1,0)):=fun tx h=>BJ Fa h;have FB:Hid (∀ tx i,i<QN->dJ (cB (dF (aO ⟨n0,f0,n1,f1⟩ (aX ⟨n0,f0,n1,f1⟩ t).1)) m tx i)):=fun tx i hi=>by obtain⟨-,-,-,e4,-,e6,-⟩:=eN (dF (aO ⟨n0,f0,n1,f1⟩ (aX ⟨n0,f0,n1,f1⟩ t).1)) m i tx;have h:=(ro i hi).fits;exact⟨by rw[e4];exact h.1,by rw[e6];exact h.2⟩
 generalize dF (aO ⟨n0,f0,n1,f1⟩ (aX ⟨n0,f0,n1,f1⟩ t).1)=F at ex PB PA PO FB;clear A Fc hD hr Fj B X mv DQ DE HL MF ro Fd ld n9 E9 n6 Fh;have P:=KA.c0;have gl:=(O.own.lt g rfl).2;have k1:=(ed (la.out _ O) HR 1 (by omega) rfl).1;by_cases n7:r.1.kind=3;case neg =>
  have hkk:(r.1.kind == 3)=QB:=by simpa using n7
  have B9:=ae (E.out.below B5).b;go_wp2;go_ret;exact⟨rfl,B9⟩
 rw[n7] at k1;replace PB:=ae (PB.out n7);clear n7;obtain⟨tx,th⟩:∃ tx:ByteArray,tx=r.1.text++⟨#[33]⟩:=⟨_,rfl⟩
 have qr:tx.size=r.1.text.size+1:=by rw[th,JC];rfl
 have Fs:¬ 9223372036854775807<r.1.text.size+1:=by omega
 replace PA:=ae (PA.out tx qr);replace PO:=ae (PO.out tx);replace PB:=ae (fun h=>PB.out tx h qr);replace FB:=ae (FB.out tx);replace ex:=ae (ex.out tx);have Fe:=ae th;clear qr th;go_upto_region 16 with fail;clear k1 P gl;go_wp2_with fail;refine aD (fun V=>V.cell? (N bb 0 Z)=T (Y (T (N g 0 Z)) QN M)/\V.cell? (N g (m*6+3) Z)=T (U r.1.text)) 12 (by as_aux_lemma=>kernel_rfl) ?_;replace KA:=ae (KA.below br.drew ly);replace B5:=ae (B5.out.trans (br.drew.mono B5.size));replace O:=ae (O.out.agr (dh br.drew ly));generalize W5.drew=v3 at KA B5 O ⊢;have z:Hid (v3.cell? (N bb 0 Z)=T (Y (T (N g 0 Z)) QN M)/\v3.cell? (N g (m*6+3) Z)=T (U r.1.text)):=⟨KA.c0,(ed (la.out _ O) HR 3 (by omega) rfl).1⟩
 iterate 9
  refine aL 0 (v:=?_) rfl rfl (by as_aux_lemma=>kernel_rfl) (fun _ _ _ h=>h) rfl ?_ z.out ?_;rotate_left
  ·(intro wz QP;obtain⟨s0,s1⟩:=QP;go_simp)
   (try with_reducible rfl)
  (try simp only[Act.put,nzL])
 iterate 3
  refine cC 9 rfl rfl (by as_aux_lemma=>kernel_rfl) (fun K l=>?_);go_simp;refine l _ _ (fun _=>z.out) ?_;clear l K
  (try simp only[Act.put,nzL])
  (try rw[<-Fe.out])
 obtain⟨d0,d1⟩:=ed (la.out _ O) HR 3 (by omega) rfl;have gl:=(O.own.lt g rfl).2;obtain⟨gcs,gz,Fi⟩:=fh O.own g rfl;have sm:=ae (O.out.fld (j:=3) (u:=U tx) (r':=({ r.1 with text:=tx },r.2)) aq.out.symm HR (by omega) rfl ((O.sub r Fb).same _ rfl rfl rfl rfl));have W:Hid (SlDeed (v3.setCell (N g (m*6+3) Z) (U tx)) (T (N g 0 Z)) QN (cB F m tx)):=by
  have h:=sm.out;have e:QN=(R.set m ({ r.1 with text:=tx },r.2)).length:=by rw[IC];exact aq.out.symm
  rw[e] at h ⊢;rw[<-ex.out];exact h.deeds
 have bt:Hid (AB (v3.setCell (N g (m*6+3) Z) (U tx)) bb (Y (T (N g 0 Z)) QN M)):=(qh v3 (N g (m*6+3) Z) (U tx) bb (jr KA Fi (by decide))).trans KA;have D:=ae (B5.out.setCell (p:=(N g (m*6+3) Z)) Fx (U tx));have T7:Hid ((v3.setCell (N g (m*6+3) Z) (U tx)).cell? (N g (m*6+3) Z)=T (U tx)):=by
  have e1:R[m]?=T r:=HR.out;have h:=sm.out;have e:QN=(R.set m ({ r.1 with text:=tx },r.2)).length:=by rw[IC];exact aq.out.symm
  have h:=h.own;rw[e] at h;exact(ed h (I5 (by have:=aq.out;omega)) 3 (by omega) rfl).1
 refine af (i:=12) rfl (by as_aux_lemma=>kernel_rfl) (fun K l=>?_);go_simp;refine l _ _ (fun h=>absurd rfl h) ?_;clear l K z
 (try simp only[Act.put,nzL])
 refine aM (by as_aux_lemma=>kernel_rfl) ?_ _;clear d0 d1 gl Fi O sm KA B5 HR Fb aq ex la Fm Fe Fs;generalize v3.setCell (N g (m*6+3) Z) (U tx)=W7 at W bt D T7 ⊢;have P:=bt.c0;go_wp2_with fail;have CF:=ae (fun V (y:Below W7.heap.size W7 V)=>jI (T (N g 0 Z)) QN M (cB F m tx) V (by omega) (W.below y ly) (by omega) FB (QM.out V (E.out.below (D.trans (y.mono D.size))).b).1 (QM.out V (E.out.below (D.trans (y.mono D.size))).b).2.1 (QM.out V (E.out.below (D.trans (y.mono D.size))).b).2.2);have QJ:=ae (fun V (y:Below W7.heap.size W7 V)=>pD (S:=⟨n0,f0,n1,f1⟩) (a:=T (N g 0 Z)) (n:=QN) (cap:=M) (c0:=c0) (c1:=c1) (f:=cB F m tx) V (by omega) (by show n0<=_;omega) (by show n1<=_;omega) (W.below y ly) (by omega) FB (E.out.below (D.trans (y.mono D.size))).s0 (E.out.below (D.trans (y.mono D.size))).s1 At (QM.out V (E.out.below (D.trans (y.mono D.size))).b).1 (QM.out V (E.out.below (D.trans (y.mono D.size))).b).2.1 (QM.out V (E.out.below (D.trans (y.mono D.size))).b).2.2);simp only at QJ;generalize fk (cB F m tx) QN=q at CF PB PO;obtain⟨q1,q2⟩:=q;generalize (ft n0 f0 n1 f1 (cB F m tx) QN).1=C at QJ PA;have hC:¬ C=0:=PA.out;have hCn:(C != 0)=QD:=by simpa using hC
 refine(CF.out _ br).mono ?_;rintro e w8 ⟨rfl,A⟩;have B8:=ae A;replace bt:=ae (bt.below A ly)
 have T8:Hid (w8.cell? (N g (m*6+3) Z)=T (U tx)):=(A.cell (p:=(N g (m*6+3) Z)) (by
  rcases W.out with h | ⟨b',Fq,e,hr⟩
  ·omega
  ·cases e
   exact hr.1)).trans T7
 have gl8:g<w8.heap.size:=by
  rcases W.out with h | ⟨b',Fq,e,hr⟩
  ·omega
  ·cases e
   have:=hr.1;have:=A.size;omega
 replace E:=ae (E.out.below (D.trans (A.mono D.size)));clear A CF P W T7 D;have P:=bt.c0;obtain⟨y0,y1,-⟩:=E.out.c;have t8:=T8.out;by_cases fd:tx.size<=2000;case' pos=>obtain⟨rfl,rfl⟩:=Prod.mk.inj (PB.out fd)
 case' neg =>obtain⟨rfl,rfl⟩:=Prod.mk.inj (PO.out fd);have h2k:(2000:Int)<(tx.size:Int):=by omega
 all_goals
  clear PB PO fd;go_wp2_with fail;refine(QJ.out _ B8).mono ?_;rintro e w9 ⟨rfl,A⟩;have B9:=ae (E.out.below A).b;clear A;go_wp2;go_ret;exact⟨rfl,B9⟩
end Go.Proofs.YtamacmnikdejeaaGreatDoor.Vp
