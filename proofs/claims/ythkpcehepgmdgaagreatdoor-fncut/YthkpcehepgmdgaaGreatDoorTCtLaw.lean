import Derived.Test.YthkpcehepgmdgaaGreatDoorQJ
import Derived.Test.YthkpcehepgmdgaaGreatDoorST
import Derived.Test.YthkpcehepgmdgaaGreatDoorQI
import Derived.Test.YthkpcehepgmdgaaGreatDoorQE
import Derived.Test.YthkpcehepgmdgaaGreatDoorSV
set_option maxRecDepth 100000
set_option maxHeartbeats 16000000
open Go renaming Addr.mk->Q,Value.slice->Z,Value.string->U,Value.int->J,Value.bool->ZC,Value.agg->ZH,Obj.cells->N,IntKind.i64->I,World->G,Ending.returned->ZG,World.cell?->ZV,World.setCell->ZT
open Option renaming none->Y,some->T
open Bool renaming false->ZB,true->ZF
open List renaming length->ZU
namespace Go.Proofs.YthkpcehepgmdgaaGreatDoor.Vp
open Tryz RowKit
variable {f:Nat->af}{n:Nat}{S:Spc}{t:ByteArray}
theorem AU (b:(fZ S.n0 S.f0 S.n1 S.f1 f n).1=0):aK f n=ZF:=by
 rcases Bool.eq_false_or_eq_true (aK f n) with h|h;{exact h};{unfold fZ at b;rw[eT (by simp[h])] at b;simp at b}
theorem DZ{p:Nat}(j:(fZ S.n0 S.f0 S.n1 S.f1 f n).1=0)(m:p<n):((bQ S (f p).e).1.length=(cD f n (f p).e).length/\1<=(cD f n (f p).e).length/\(∀i,i<(cD f n (f p).e).length->DeedEq (dF (cD f n (f p).e) i) (dF (aV S (bQ S (f p).e).1) i))/\(fZ S.n0 S.f0 S.n1 S.f1 (dF (cD f n (f p).e)) (cD f n (f p).e).length).1=0) ∨
  (cD f n (f p).e=[]/\(bQ S (f p).e).2.E=7):=by
 have h:=AU j;obtain⟨b,q⟩:=(xg h).1 j;unfold bQ;rw[hU ⟨b,(eO h m).1⟩];rcases Gp h (SpcOk.of b) q m with ⟨M,e,h1,h2,l,o,g⟩|⟨h1,x,h2⟩
 {rw[h1];rw[h2] at l o g;exact .inl ⟨h2,l,λi hi=>(g i hi).1.symm,(xg o).2 ⟨b,λi hi=>(g i hi).2⟩⟩};{rw[h2];exact .inr ⟨h1,rfl⟩}
theorem Ea (b:aK f n=ZF)(i:av t=ZB):cD f n t=[]:=by
 unfold cD;rw[hU b];refine hU (dn λj g=>?_);have h:=(eO b g).1;cases hb:((f j).e.toList == t.toList) with
 |false=>rfl
 |true =>have e:(f j).e=t:=fa (by simpa using hb);rw[e,i] at h;cases h
theorem rP (j:∀i,i<n->bJ (f i)):∀i,i<(cD f n t).length->bJ (dF (cD f n t) i):=by
 unfold cD;split
 ·rename_i l;split;{exact λi hi=>absurd hi (IT _)}
  ·rename_i g;split
   ·intro i hi;rcases iL (λi=>!((f i).e.toList == t.toList)) n with h|⟨p,h,b,-,-⟩
    {exact absurd h g}
    ·have e:(bZ f t n).toNat=p:=by unfold bZ;rw[h];rfl
     rw[e] at hi ⊢;exact t8 (dI (dy l).2.2) b j _ (zO hi)
   {exact λi hi=>absurd hi (IT _)}
 {exact λi hi=>absurd hi (IT _)}
open Ca
theorem yZ{a a0 a1:Option Addr}{cap c0 c1:Nat}(w:G)(hn:(n:Int)<=1048576)(hn0:S.n0<=1048576)(hn1:S.n1<=1048576)(s:SlDeed w a n f)(o:(n:Int)<=cap)(g:∀i,i<n->bJ (f i))(m:SlSource w a0 S.n0 S.f0)(j:SlTarget w a1 S.n1 S.f1)(l:∀i,i<S.n1->aU (S.f1 i))(p:Tab w)(h:Tab2 w)(t:Pow w):Calls Tryz.prog 10 #[ZH #[Z a n cap],ZH #[Z a0 S.n0 c0,Z a1 S.n1 c1]] w λe x=>e=ZG (J I (fZ S.n0 S.f0 S.n1 S.f1 f n).1)/\Below w.heap.size w x:=by have b:=ae (((q9 w).alloc ly (N #[Z a n cap] 25)).alloc (by simp) (N #[Z a0 S.n0 c0,Z a1 S.n1 c1] 33));have C:=ae (sF a n cap f a0 S.n0 c0 S.f0 a1 S.n1 c1 S.f1 _ hn (by omega) (by omega) (s.aa b ly) o g (m.aa b ly) (j.aa b ly) l (p.aa b p.1) (h.aa b h.1) (t.aa b ly));clear s m j g l p h t;generalize fZ S.n0 S.f0 S.n1 S.f1 f n=q at C ⊢;go_enter func10,ntmps10;go_wp2_with fail;refine C.mono ?_;rintro e w1 ⟨rfl,r⟩;have u:=ae (b.trans (r.mono b.size));clear r;go_wp2;go_ret;exact⟨rfl,u⟩
theorem uU:(cD f n t).length<=400:=by
 unfold cD;split;{split;{exact DN _};{split;{rename_i h;exact(dy h).2.1};{exact DN _}}};{exact DN _}
theorem Hf (u:Value)(w:G):(Instr.field 25 (ZH #[u]) 0).run Tryz.prog w=.ok u w:=by kernel_rfl
def MkC (W:G)(C:List af)(f:Nat)(d:Option Addr)(b:Nat)(v:G):Prop:=SlDeed v d (ZU C) (dF C)/\(ZU C)<=b/\AB v f (Z d (ZU C) b)/\Below W.heap.size W v
theorem AV{W v:G}{C:List af}{g b f:Nat}{d:Option Addr}{R:List DR}(h:DRow v b (Z d (ZU R) f) R)(j:R.map (·.1)=C)(l:AB v g (Z d (ZU R) f))(i:Below W.heap.size W v):MkC W C g d f v:=by subst j;have e:(R.map (·.1)).length=ZU R:=LR _;exact⟨by rw[e];exact h.bb,by rw[e];exact ie h.y,by rw[e];exact l,i⟩
theorem Eb (a:Option Addr)(n cap:Nat)(w:G)(h1:1048576<(n:Int)):Calls Tryz.prog 3 #[Z a n cap] w λe b=>e=ZG (ZC ZF)/\Below w.heap.size w b:=by go_enter UZ,ntmps3;go_wp2;go_ret;exact⟨rfl,cM _ _⟩
theorem FJ (a:Option Addr)(n cap:Nat)(w:G)(hc:n<=cap)(ZN:ByteSl w a n)(hT:Tab w)(ro:Tab2 w)(hP:Pow w):Calls Tryz.prog 3 #[Z a n cap] w λe w'=>e=ZG (ZC ZF)/\Below w.heap.size w w':=by
 by_cases th:1048576<(n:Int)
 {exact Eb a n cap w th};have LY:=ae (λV (A:Below w.heap.size w V)=>(⟨hT.aa A hT.1,ro.aa A ro.1,hP.aa A ly⟩:Tab V/\Tab2 V/\Pow V));have DM:=ae (wj a n cap w (by omega) hc ZN);have DA:=ae (λV (A:Below w.heap.size w V)=>sH a n cap V (by omega) hc (ZN.aa A ly));clear hT ro hP ZN hc;go_enter UZ,ntmps3;go_wp2_with fail;refine DM.out.mono ?_;rintro e w1 ⟨xa,xn,xc,xf,t,rfl,ZQ,qr⟩;clear DM th;have hxn:=ZQ.hn;have hxc:=ZQ.cap;have XF:=ae (λi hi=>(ZQ.aq i hi).fits);have XS:=ae (λi hi=>(ZQ.aq i hi).sized);obtain⟨W1,DQ⟩:∃W:G,w1.alloc (N #[Z xa xn xc] 25)=W:=⟨_,rfl⟩
 obtain⟨B1,X1,-⟩:=nb1 DQ;have SD:=ae (ZQ.sl W1 (cC B1 ly));replace B1:=ae (qr.trans (B1.mono qr.size));have HW:=ae DQ;clear DQ ZQ qr;go_upto_region 4 with fail;rw[HW.out];clear HW;generalize w1.heap.size=xb at X1 ⊢;obtain⟨C,hC⟩:∃C,C=cD xf xn t:=⟨_,rfl⟩
 have n9:ZU C<=400:=by rw[hC];exact uU
 have CF:Hid (∀i,i<ZU C->bJ (dF C i)):=by rw[hC];exact rP XF.out
 have CI:=ae (λV (A:Below W1.heap.size W1 V)=>nQ xa xn xc xf t V (by omega) (SD.out.aa A ly) (by omega) XF (LY.out V (B1.trans (A.mono B1.size))).1);have CS:=ae (λV (A:Below W1.heap.size W1 V)=>vA xa xn xc xf t V (by omega) (SD.out.aa A ly) XF XS);rw[<-hC] at CI CS;clear hC XF XS SD;go_cut [28] (λs ZK=>s=ZC ZB/\Hid (Below w.heap.size w ZK));case first =>
  go_wp2_with fail;have xl:=ag X1.out;refine wp_region_held_drew (S:=λV=>ZV V (Q xb 0 Y)=T (Z xa xn xc)) (by as_aux_lemma=>kernel_rfl) (AB.c0 X1.out) λZN=>?_;have o:=ae ZN;have H:=ae (q9 W1).drew;clear ZN;generalize W1.drew=v at o H ⊢;iterate 2
   refine aW 0 (v:=?_) rfl rfl (by kernel_rfl) (λ_ _ _ h=>h) rfl ?_ o.out ?_;rotate_left
   ·(intro wz P;go_simp)
    (try with_reducible rfl)
   (try simp only[Act.put,nzL])
  iterate 2
   refine aW 3 (v:=?_) rfl rfl (by kernel_rfl) (λ_ _ _ h=>h) rfl ?_ o.out ?_;rotate_left
   ·(intro wz P;go_simp)
    (try with_reducible rfl)
   (try simp only[Act.put,nzL])
  refine aS (i:=2) rfl (by kernel_rfl) λK y=>?_;go_simp;go_at_call 6;refine(CI.out _ H).mono ?_;rintro e v2 ⟨d2,k2,R,rfl,ZM,ZP,z⟩;have HL:=ae (show (ZU R)=ZU C by have h:=CD List.length ZP;simpa using h);have SL:Hid (SlDeed v2 d2 (ZU R) (dF C)):=by rw[<-ZP];exact ZM.bb
  replace H:=ae (H.trans (z.mono H.size));clear ZM ZP z;replace o:=ae ((H.cell (p:=(Q xb 0 Y)) xl).trans (AB.c0 X1.out));refine y _ _ o.out ?_;clear y K
  (try simp only[Act.put,nzL])
  refine aS (i:=5) rfl (by kernel_rfl) λK y=>?_;go_simp;go_at_call 7;refine(CS.out _ H).mono ?_;rintro e v3 ⟨d3,k3,rfl,ZM,z⟩;have S3:=ae ZM;replace SL:=ae (SL.out.aa z ly);replace H:=ae (H.trans (z.mono H.size));clear ZM z;replace o:=ae ((H.cell (p:=(Q xb 0 Y)) xl).trans (AB.c0 X1.out));refine y _ _ o.out ?_;clear y K
  (try simp only[Act.put,nzL])
  refine aS (i:=6) rfl (by kernel_rfl) λK y=>?_;go_simp;go_at_call 5;refine(mU d2 (ZU R) k2 (dF C) d3 (ZU C) k3 (dF C) _ (by have:=HL.out;omega) SL S3 (λi hi=>CF.out i (by rw[<-HL.out];exact hi))).mono ?_;rintro e v4 ⟨b,rfl,hb,z⟩;obtain rfl:b=ZF:=hb.2 ⟨HL.out.symm,λi _=>DeedEq.refl _⟩;replace H:=ae (H.trans (z.mono H.size));clear hb z;replace o:=ae ((H.cell (p:=(Q xb 0 Y)) xl).trans (AB.c0 X1.out));refine y _ _ o.out ?_;clear y K
  (try simp only[Act.put,nzL])
  refine aW 7 (v:=?_) rfl rfl (by kernel_rfl) (λ_ _ _ h=>h) rfl ?_ o.out ?_;rotate_left
  ·(intro wz P;go_simp)
   (try with_reducible rfl)
  (try simp only[Act.put,nzL])
  refine wpAnyH_done (by kernel_rfl) ?_ _;clear o;go_wp2;go_meet;exact⟨rfl,B1.trans (H.mono B1.size)⟩
 case rest =>
 clear CI CS CF X1 B1 n9;obtain⟨rfl,B4⟩:=hcut;generalize wc=w4 at B4 ⊢;go_wp2_with fail;refine(DA.out _ B4).mono ?_;rintro e w5 ⟨a0,n0,c0,f0,a1,n1,c1,f1,d,ZO,dc,f,rfl,hH,ZQ,-,Fm⟩;clear DA;have hn0:=hH.hn0;have hn1:=hH.hn1;have hN:=ZQ.hn;have Fn:=ZQ.cap;have fd:=ae (show ∀i,i<n1->aU (f1 i) from λi hi=>by have:=(hH.aq i hi).1;unfold aU;omega);have DE:=ae (show ∀i,i<n1->∀j,j<(f1 i).l->((f1 i).u j).s.size<=maxLen from λi hi j hj=>by have:=(hH.aq i hi).2 j hj;unfold maxLen;omega);have n8:=ae (λi hi=>(ZQ.aq i hi).fits);have Fk:=ae (λi hi=>(ZQ.aq i hi).sized);have E:=ae (GA (c0:=c0) (c1:=c1) hH ZQ Fm);clear hH ZQ Fm;replace LY:=ae (λV (A:Below w4.heap.size w4 V)=>LY.out V (B4.trans (A.mono B4.size)));go_upto_region 7 with fail;generalize World.alloc (World.alloc w5 _) _=W5 at E ⊢;generalize w5.heap.size+1=sb at E ⊢;generalize w5.heap.size=ab at E ⊢;have CG:=ae (λV (A:Lw w4 ab sb d ZO dc f a0 n0 c0 f0 a1 n1 c1 f1 V)=>sG d ZO dc f a0 n0 c0 f0 a1 n1 c1 f1 V (by omega) (by omega) (by omega) A.dd n8 Fk A.s0 A.s1 fd DE);have CW:=ae (λV (A:Below w4.heap.size w4 V) (h0:SlSource V a0 n0 f0) (h1:SlTarget V a1 n1 f1) (g:Nat->af) (m k:Nat) (u:Option Addr) (ZP:m<=50000) (hk:m<=k) (hu:SlDeed V u m g) (hg:∀i,i<m->bJ (g i))=>yZ (S:=⟨n0,f0,n1,f1⟩) (c0:=c0) (c1:=c1) (cap:=k) V (by omega) (by show n0<=_;omega) (by show n1<=_;omega) hu (by omega) hg h0 h1 fd (LY.out V A).1 (LY.out V A).2.1 (LY.out V A).2.2);have CM:=ae (λV (h0:SlSource V a0 n0 f0) (h1:SlTarget V a1 n1 f1) (nm:ByteArray)=>jB (S:=⟨n0,f0,n1,f1⟩) (c0:=c0) (c1:=c1) V nm h0 h1 (by show n0<=_;omega) (by show n1<=_;omega) fd DE);have CC:=ae (λV (A:Lw w4 ab sb d ZO dc f a0 n0 c0 f0 a1 n1 c1 f1 V) (nm:ByteArray)=>nQ d ZO dc f nm V (by omega) A.dd (by omega) n8 (LY.out V A.b).1);have PF:=ae (λp ha hp=>DZ (S:=⟨n0,f0,n1,f1⟩) (f:=f) (n:=ZO) (p:=p) ha hp);have PO:=ae (AU (S:=⟨n0,f0,n1,f1⟩) (f:=f) (n:=ZO));have PW:=ae (CW.out);simp only at PF PO;obtain⟨q,hq⟩:∃q,q=(fZ n0 f0 n1 f1 f ZO).1:=⟨_,rfl⟩
 obtain⟨y1,y2,y0⟩:=E.out.c;go_wp2_with fail;refine(CG.out _ E).mono ?_;rintro e W ⟨rfl,z⟩;replace E:=ae (E.out.aa z);have HQ:=ae hq;rw[<-hq];clear z y0 y1 y2 CG DE Fk fd hq;by_cases hq:q=0;case neg =>
  have hqb:(q == 0)=ZB:=by simpa using hq
  obtain⟨y1,y2,y0⟩:=E.out.c;go_wp2_with fail;refine(CW.out _ E.out.b E.out.s0 E.out.s1 f ZO dc d (by omega) Fn E.out.dd n8).mono ?_;rintro e W2 ⟨rfl,z⟩;replace E:=ae (E.out.aa z);simp only;rw[<-HQ.out];have BE:=ae (B4.trans (E.out.b.mono B4.size));clear z y0 y1 y2;go_wp2;go_ret;exact⟨rfl,BE⟩
 case pos =>
 subst hq;have ZQ:=PO.out HQ.out.symm;have HA:=ae ZQ;replace PF:=ae (λp hp=>PF.out p HQ.out.symm hp);clear HQ PO PW ZQ;go_wp2_with fail;go_loopw [9] (λs wr=>∃i:Nat,i<=ZO/\s=J I (i:Int)/\Hid (Lw w4 ab sb d ZO dc f a0 n0 c0 f0 a1 n1 c1 f1 wr)) (λs _=>ZO - (intOf s).toNat);case atStart=>exact⟨0,DN _,rfl,E⟩
 case round =>
  clear E;obtain⟨i,hi,rfl,E⟩:=hrel;have y0:=E.out.ax.c0;go_upto_region 11 with fail;go_cut [55] (λs ZK=>∃b1:Bool,s=ZC b1/\(b1=ZF->i<ZO)/\wr=ZK);case first =>
   by_cases h1:i<ZO
   ·have Fd:(i:Int)<(ZO:Int):=by omega
    by_cases h2:(i:Int)<20;{go_wp2;go_meet;exact⟨_,rfl,λ_=>h1,rfl⟩};{go_wp2;go_meet;exact⟨ZB,rfl,(λh=>by cases h),rfl⟩}
   ·have Fd:¬ (i:Int)<(ZO:Int):=by omega
    go_wp2;go_meet;exact⟨ZB,rfl,(λh=>by cases h),rfl⟩
  case rest =>
  obtain⟨b1,rfl,Bk,rfl⟩:=hcut;cases b1 with
  |false =>
   clear Bk;go_wp2_with fail;refine(CC.out _ E _).mono ?_;rintro e W2 ⟨d2,k2,R,rfl,-,ZP,z⟩;rw[Ea HA.out (by decide)] at ZP;have hR:ZU R=0:=by have h:=CD List.length ZP;simpa using h
   rw[hR];have BE:=ae (B4.trans ((E.out.aa z).b.mono B4.size));clear z ZP hR E y0;go_wp2;rw[Hf];go_wp2;go_ret;exact⟨rfl,BE⟩
  |true =>
  have h1:=Bk rfl;have Fd:(i:Int)<(ZO:Int):=by omega
  clear Bk;obtain⟨ZS,off,rfl,ur⟩:=E.out.dd.resolve_left (by omega);have At:=(ur.2 i h1).1;have sm:=ur.1;have X:=ae (PF.out i h1);have la:Hid (∀j,j<(cD f ZO (f i).e).length->bJ (dF (cD f ZO (f i).e) j)):=rP n8.out;have n9:(cD f ZO (f i).e).length<=400:=uU;have ph:=ae (uF ⟨n0,f0,n1,f1⟩ (f i).e);have ZJ:=ae (uP ⟨n0,f0,n1,f1⟩ (f i).e);have n7:=ae (λV A=>CC.out V A (f i).e);have ld:=ae (λV h0 h1=>CM.out V h0 h1 (f i).e);generalize (f i).e=nm at At X la n9 ph ZJ n7 ld;clear ur y0;generalize cD f ZO nm=C at X la n9 n7;generalize bQ ⟨n0,f0,n1,f1⟩ nm=BP at X ph ZJ ld;obtain⟨BM,rs⟩:=BP;simp only at X ph ZJ;have QN:Hid (∀V,Below wr.heap.size wr V->ZV V (Q ab 0 Y)=T (Z (T (Q ZS off Y)) ZO dc)/\ZV V (Q sb 0 Y)=T (Z a0 n0 c0)/\ZV V (Q sb 1 Y)=T (Z a1 n1 c1)/\ZV V (Q ZS (off+i*6) Y)=T (U nm)):=λV A=>⟨(E.out.aa A).ax.c0,(E.out.aa A).sx.c0,(E.out.aa A).sx.c1,(A.cell (p:=(Q ZS (off+i*6) Y)) sm).trans At⟩
  go_upto_region 13 with fail;go_cut [10] (λs ZK=>∃(bb:Nat) (L:Option Addr) (O:Nat),s=.pointer (T (Q bb 0 Y))/\Hid (MkC wr C bb L O ZK));case first =>
   go_wp2_with fail;refine wp_region_held_drew (S:=λV=>ZV V (Q ab 0 Y)=T (Z (T (Q ZS off Y)) ZO dc)/\ZV V (Q sb 0 Y)=T (Z a0 n0 c0)/\ZV V (Q sb 1 Y)=T (Z a1 n1 c1)/\ZV V (Q ZS (off+i*6) Y)=T (U nm)) (by as_aux_lemma=>kernel_rfl) (QN.out _ br.drew) λZN=>?_;have o:=ae ZN;have l:Hid (RgM wr wr.drew Y Y):=⟨br.drew,(λ_ _ e=>by cases e),(λ_ _ e=>by cases e)⟩
   have QS:=QN;clear ZN;have ZL:ZS<wr.drew.heap.size:=sm;generalize wr.drew=v at o l ZL ⊢;iterate 7
    refine aW 0 (v:=?_) rfl rfl (by kernel_rfl) (λ_ _ _ h=>h) rfl ?_ o.out ?_;rotate_left
    ·(rintro wz ⟨s0,s1,s2,s3⟩;go_simp)
     (try with_reducible rfl)
    (try simp only[Act.put,nzL])
   clear ZL;repeat' first
    |(refine cQ (i:=7) (j:=8) rfl rfl (by as_aux_lemma=>kernel_rfl) (λK y=>?_) (λK y=>?_))
    |(refine gn 7 rfl rfl (by as_aux_lemma=>kernel_rfl) (λK y=>?_))
    |(refine wpAnyH_done (by as_aux_lemma=>kernel_rfl) ?_ _;clear o;go_wp2;go_meet;exact⟨_,_,_,rfl,AV D.out HM.out (l.out.a _ _ rfl).2 l.out.b⟩)
    |((fail_if_success guard_hyp D);go_simp;go_at_call 6;refine(n7.out _ (E.out.aa l.b)).mono ?_;rintro e v2 ⟨L,O,R,rfl,ZM,ZP,z⟩;have D:=ae (ZM.low (b':=wr.heap.size) (AD l.b.size (Nat.le_add_right _ _)));have HM:=ae ZP;replace l:=ae (l.out.aa z);clear z ZM ZP;clear o;have o:=ae (QS.out _ l.b);refine y _ _ o.out ?_;clear y K;obtain⟨v,rfl⟩:∃x,x=v2:=⟨_,rfl⟩;(try simp only[Act.put,nzL]))
    |((fail_if_success guard_hyp ZA);(try replace D:=ae (D.out.agr (cC ((q9 v).alloc ly (N #[Z Y 0 0] 25)) ly)));replace l:=ae (l.out.newA #[Z Y 0 0]);clear o;have o:=ae (QS.out _ l.b);go_simp;refine y _ (v.alloc (N #[Z Y 0 0] 25)) o.out ?_;clear y K;obtain⟨p7,B⟩:∃x,v.heap.size=x:=⟨_,rfl⟩;rw[B] at l ⊢;clear B;obtain⟨v,B⟩:∃x,v.alloc (N #[Z Y 0 0] 25)=x:=⟨_,rfl⟩;rw[B] at l o ⊢;(try rw[B] at D);clear B;(try simp only[Act.put,nzL]);have ZA:=True.intro)
    |((fail_if_success guard_hyp TA);obtain⟨aq,ex,bt⟩:=l.out.cA;replace D:=ae (l.out.dA D (Z L (ZU R) O));replace l:=ae (l.out.setA (Z L (ZU R) O));clear o;have o:=ae (QS.out _ l.b);go_simp;clear aq ex bt;refine y _ _ o.out ?_;clear y K;obtain⟨v,B⟩:∃x,ZT v (Q p7 0 Y) (Z L (ZU R) O)=x:=⟨_,rfl⟩;rw[B] at l o D ⊢;clear B;(try simp only[Act.put,nzL]);have TA:=True.intro)
  case rest =>
  clear n7;obtain⟨bb,L,O,rfl,MC⟩:=hcut;generalize wc=W6 at MC ⊢;obtain⟨m1,Hm,m3,m4⟩:=MC.out;have SB:=ae m1;have XB:=ae m3;have M:=ae (E.out.aa m4);replace QN:Hid (∀V,Below W6.heap.size W6 V->ZV V (Q ab 0 Y)=T (Z (T (Q ZS off Y)) ZO dc)/\ZV V (Q sb 0 Y)=T (Z a0 n0 c0)/\ZV V (Q sb 1 Y)=T (Z a1 n1 c1)/\ZV V (Q ZS (off+i*6) Y)=T (U nm)):=λV A=>QN.out V (m4.trans (A.mono m4.size));clear MC m1 m3 m4 E;have ZL:ZS<W6.heap.size:=by have h:=(QN.out _ br).2.2.2;exact OV _ _ h
  go_upto_region 14 with fail;go_cut [11,12] (λHk Hj ZK=>∃(b1 b2:Nat) (L:Option Addr) (O:Nat) (ra:Option Addr) (rk:Nat),Hk=.pointer (T (Q b1 0 Y))/\Hj=.pointer (T (Q b2 0 Y))/\Hid (MkC W6 (aV ⟨n0,f0,n1,f1⟩ BM) b1 L O ZK)/\Hid (RB ZK b2 rs.E rs.B (Z ra (ZU rs.chain) rk)));case first =>
   clear X SB XB;go_wp2_with fail;refine wp_region_held_drew (S:=λV=>ZV V (Q ab 0 Y)=T (Z (T (Q ZS off Y)) ZO dc)/\ZV V (Q sb 0 Y)=T (Z a0 n0 c0)/\ZV V (Q sb 1 Y)=T (Z a1 n1 c1)/\ZV V (Q ZS (off+i*6) Y)=T (U nm)) (by as_aux_lemma=>kernel_rfl) (QN.out _ br.drew) λZN=>?_;have o:=ae ZN;have l:Hid (RgM W6 W6.drew Y Y):=⟨br.drew,(λ_ _ e=>by cases e),(λ_ _ e=>by cases e)⟩
   have QS:=QN;clear ZN;have DS:ZS<W6.drew.heap.size:=ZL;generalize W6.drew=v at o l DS ⊢;iterate 7
    refine aW 0 (v:=?_) rfl rfl (by kernel_rfl) (λ_ _ _ h=>h) rfl ?_ o.out ?_;rotate_left
    ·(rintro wz ⟨s0,s1,s2,s3⟩;go_simp)
     (try with_reducible rfl)
    (try simp only[Act.put,nzL])
   clear DS;repeat' first
    |(refine xm (i:=7) (j:=11) (m:=12) rfl rfl rfl (by as_aux_lemma=>kernel_rfl) (λK y=>?_) (λK y=>?_) (λK y=>?_))
    |(refine cQ (i:=7) (j:=12) rfl rfl (by as_aux_lemma=>kernel_rfl) (λK y=>?_) (λK y=>?_))
    |(refine cQ (i:=7) (j:=11) rfl rfl (by as_aux_lemma=>kernel_rfl) (λK y=>?_) (λK y=>?_))
    |(refine cQ (i:=11) (j:=12) rfl rfl (by as_aux_lemma=>kernel_rfl) (λK y=>?_) (λK y=>?_))
    |(refine gn 7 rfl rfl (by as_aux_lemma=>kernel_rfl) (λK y=>?_))
    |(refine wpAnyH_done (by as_aux_lemma=>kernel_rfl) ?_ _;clear o;go_wp2;go_meet;exact⟨_,_,_,_,_,_,rfl,rfl,AV D.out HM.out (l.out.a _ _ rfl).2 l.out.b,Hi⟩)
    |((fail_if_success guard_hyp D);go_simp;go_at_call 11;refine(ld.out _ (M.out.aa l.b).s0 (M.out.aa l.b).s1).mono ?_;rintro e v2 ⟨L,O,R,rv,rfl,ZM,ZP,⟨ra,rk,rfl,-⟩,z⟩;dsimp only at ZP ⊢;have D:=ae (ZM.low (b':=W6.heap.size) l.b.size);have HM:=ae ZP;replace l:=ae (l.out.aa z);clear z ZM ZP;clear o;have o:=ae (QS.out _ l.b);refine y _ _ o.out ?_;clear y K;obtain⟨v,rfl⟩:∃x,x=v2:=⟨_,rfl⟩;(try simp only[Act.put,nzL]);iterate 3 (refine aW 8 (v:=?_) rfl rfl (by kernel_rfl) (λ_ _ _ h=>h) rfl ?_ o.out ?_;rotate_left;(focus (intro wz P;obtain⟨s0,s1,s2,s3⟩:=P;go_simp;(try with_reducible rfl);done));(try simp only[Act.put,nzL])))
    |((fail_if_success guard_hyp ZA);(try replace D:=ae (D.out.agr (cC ((q9 v).alloc ly (N #[Z Y 0 0] 25)) ly)));replace l:=ae (l.out.newA #[Z Y 0 0]);clear o;have o:=ae (QS.out _ l.b);go_simp;refine y _ (v.alloc (N #[Z Y 0 0] 25)) o.out ?_;clear y K;obtain⟨p7,B⟩:∃x,v.heap.size=x:=⟨_,rfl⟩;rw[B] at l ⊢;clear B;obtain⟨v,B⟩:∃x,v.alloc (N #[Z Y 0 0] 25)=x:=⟨_,rfl⟩;rw[B] at l o ⊢;(try rw[B] at D);clear B;(try simp only[Act.put,nzL]);have ZA:=True.intro)
    |((fail_if_success guard_hyp ZR);(try replace D:=ae (D.out.agr (cC ((q9 v).alloc ly (N #[J I 0,U ⟨#[]⟩,Z Y 0 0] 47)) ly)));replace l:=ae (l.out.newR #[J I 0,U ⟨#[]⟩,Z Y 0 0]);clear o;have o:=ae (QS.out _ l.b);go_simp;refine y _ (v.alloc (N #[J I 0,U ⟨#[]⟩,Z Y 0 0] 47)) o.out ?_;clear y K;obtain⟨p8,B⟩:∃x,v.heap.size=x:=⟨_,rfl⟩;rw[B] at l ⊢;clear B;obtain⟨v,B⟩:∃x,v.alloc (N #[J I 0,U ⟨#[]⟩,Z Y 0 0] 47)=x:=⟨_,rfl⟩;rw[B] at l o ⊢;(try rw[B] at D);clear B;(try simp only[Act.put,nzL]);have ZR:=True.intro)
    |((fail_if_success guard_hyp TA);obtain⟨aq,ex,bt⟩:=l.out.cA;replace D:=ae (l.out.dA D (Z L (ZU R) O));replace l:=ae (l.out.setA (Z L (ZU R) O));clear o;have o:=ae (QS.out _ l.b);go_simp;clear aq ex bt;refine y _ _ o.out ?_;clear y K;obtain⟨v,B⟩:∃x,ZT v (Q p7 0 Y) (Z L (ZU R) O)=x:=⟨_,rfl⟩;rw[B] at l o D ⊢;clear B;(try simp only[Act.put,nzL]);have TA:=True.intro)
    |(guard_hyp TA;obtain⟨aq,ex,bt,GS,Hl,Hn,Ho⟩:=l.out.cR;have Hi:Hid (RB (ZT (ZT (ZT v (Q p8 0 Y) (J I rs.E)) (Q p8 1 Y) (U rs.B)) (Q p8 2 Y) (Z ra (ZU rs.chain) rk)) p8 rs.E rs.B (Z ra (ZU rs.chain) rk)):=bD (bD (bD (l.out.r _ _ rfl).2 _) _) _;replace D:=ae (l.out.dR (u0:=J I rs.E) (u1:=U rs.B) (u2:=Z ra (ZU rs.chain) rk) D);replace l:=ae (l.out.endR (J I rs.E) (U rs.B) (Z ra (ZU rs.chain) rk));clear o;have o:=ae (QS.out _ l.b);go_simp;clear aq ex bt GS Hl Hn Ho;refine y _ _ o.out ?_;clear y K;(try simp only[Act.put,nzL]);have TR:=True.intro)
  case rest =>
  clear ld;obtain⟨b1,b2,dm,km,ra,rk,rfl,rfl,MC,RX⟩:=hcut;generalize wc=W7 at MC RX ⊢;obtain⟨m1,m2,m3,m4⟩:=MC.out;have SM:=ae m1;have XM:=ae m3;replace M:=ae (M.out.aa m4);replace SB:=ae (SB.out.aa m4 ly);replace XB:=ae (XB.out.aa m4 ly);clear MC m1 m3 m4 ZL QN sm At ph;have el:(aV ⟨n0,f0,n1,f1⟩ BM).length=ZU BM:=by simp[aV]
  rw[el] at SM XM;generalize aV ⟨n0,f0,n1,f1⟩ BM=MD at X SM;generalize (ZU BM)=ML at X SM XM ZJ;obtain⟨x0,x1,x2⟩:=RX.out.c;have xl:=ag RX.out;have z0:=XB.out.c0;have z1:=ag XB.out;have hML:=ZJ.out;clear RX ZJ el;rcases X.out with ⟨rfl,p1,p2,p3⟩|⟨rfl,p1⟩
  case inr =>rw[p1] at x0;clear X;go_wp2;exact⟨⟨i+1,by omega,by go_num,M⟩,by simp[intOf];omega⟩
  case inl =>
  have P2:=ae p2;have P3:=ae p3;clear X p2 p3;have hz:((ZU C:Int) == 0)=ZB:=by rw[beq_eq_false_iff_ne];omega
  have w0:=XM.out.c0;go_upto_region 15 with fail;go_cut [85] (λs ZK=>s=ZC ZB/\ZK=W7);case first =>
   by_cases h7:rs.E=7;{rw[h7] at x0;go_wp2;go_meet;exact⟨rfl,rfl⟩}
   ·have h7b:(rs.E == 7)=ZB:=by simpa using h7
    go_wp2;go_meet;exact⟨rfl,rfl⟩
  case rest =>
  clear x0 x1 x2 xl;obtain⟨rfl,rfl⟩:=hcut;go_wp2_with fail;refine(mU L (ZU C) O (dF C) dm (ZU C) km (dF MD) _ (by omega) SB SM la).mono ?_;rintro e W8 ⟨b,rfl,hb,z⟩;obtain rfl:b=ZF:=hb.2 ⟨rfl,P2.out⟩;replace M:=ae (M.out.aa z);replace SB:=ae (SB.out.aa z ly);replace XB:=ae (XB.out.aa z ly);clear hb z z0 z1 w0 XM SM P2;have z0:=XB.out.c0;obtain⟨y1,y2,y0⟩:=M.out.c;go_wp2_with fail;refine(CW.out _ M.out.b M.out.s0 M.out.s1 (dF C) (ZU C) O L (by omega) Hm SB la).mono ?_;rintro e W9 ⟨rfl,z⟩;replace M:=ae (M.out.aa z);simp only;rw[P3.out];clear z z0 y0 y1 y2;go_wp2;exact⟨⟨i+1,by omega,by go_num,M⟩,by simp[intOf];omega⟩
