import Derived.Test.YtpmnbjkjpnclaaaGreatDoorJG
import Derived.Test.YtpmnbjkjpnclaaaGreatDoorKX
import Derived.Test.YtpmnbjkjpnclaaaGreatDoorJF
set_option maxRecDepth 100000
set_option maxHeartbeats 16000000
open Go renaming Addr.mk->N,Value.slice->Y,Value.string->U,Value.int->Q,Value.bool->ZC,Obj.cells->J,IntKind.i64->I,World->M,Ending.returned->ZD,World.cell?->z
open Option renaming none->Z,some->T
open Bool renaming false->ZA,true->ZF
namespace Go.Proofs.YtpmnbjkjpnclaaaGreatDoor.Vp
open RowKit
variable {i p:Nat}
section
variable {S S2:Spc}{k t:ByteArray}
theorem qB {c:Nat->Int}:∀{n:Nat},(fU c n).1=0->∀i,i<n->c i=0
 |0,_,i,hi=>absurd hi (by omega)
 |n+1,h,i,hi=>by
  rw[fU] at h;split at h
  ·rename_i b
   split at h
   ·rcases NE.1 hi with e|rfl
    ·exact qB b i e
    ·assumption
   ·contradiction
  ·contradiction
theorem Em{f:Nat->aj}{n:Nat}(i:bK f n=ZF):(js S.n0 S.f0 S.n1 S.f1 f n).1=0 ↔ be S.n0 S.f0 S.n1 S.f1=0/\∀p,p<n->Borne S f p:=by
 unfold js;rw[nL i];constructor;{intro h;split at h;{rename_i g;refine⟨g,λp b=>?_⟩;have:=qB h p b;unfold fc at this;split at this;{omega};split at this;{omega};rename_i h1 h2;exact⟨by simpa using h1,by simpa using h2,this⟩};{cases h}};{rintro⟨g,h⟩;rw[nL g,qp λp b=>by unfold fc;rw[eT (by rw[(h p b).lie];simp),eT (by rw[(h p b).has];simp)];exact(h p b).run]}
end
theorem tM (acc:List (List UInt8))(f:Nat->aj)(k:Nat):(∀ZR∈acc,ZR∈fg acc f k)/\∀p,p<k->(txt (f p)).toList∈fg acc f k:=by
 induction k with
 |zero=>exact⟨λ_ h=>h,λp b=>absurd b (JI p)⟩
 |succ k g =>
  refine⟨λZR hz=>(jN _ _ _).2 (.inl (g.1 ZR hz)),λp b=>(jN _ _ _).2 ?_⟩;rcases NE.1 b with h|rfl;{exact .inl (g.2 p h)};{exact .inr rfl}
theorem Ck{F:Nat->Acc}(g:bK (F i).f (F i).n=ZF)(j:p<(F i).n):∀m,i<m->(txt ((F i).f p)).toList∈cJ F m:=by
 intro m;induction m with
 |zero=>intro h;omega
 |succ m b =>
  intro h;rw[cJ];rcases NE.1 h with h|rfl;{split;{exact(tM _ _ _).1 _ (b h)};{exact b h}};{rw[nL g];exact(tM _ _ _).2 p j}
theorem xE{S:Spc}{F:Nat->Acc}{m:Nat}(q:m<=50)(hi:i<m)(l:(js S.n0 S.f0 S.n1 S.f1 (F i).f (F i).n).1=0)(o:p<(F i).n)(g:(aX S ((F i).f p).e).2.E≠7):∃j,j<(dT F m).length/\(nmF (dT F m) j).toList=(ep (aX S ((F i).f p).e).2.E (aX S ((F i).f p).e).2.y (aX S ((F i).f p).e).2.w.length).toList:=by
 have b:bK (F i).f (F i).n=ZF:=by
  rcases Bool.eq_false_or_eq_true (bK (F i).f (F i).n) with h|h;{exact h};{unfold js at l;rw[eT (by simp[h])] at l;simp at l}
 obtain⟨s,u⟩:=(Em b).1 l;have hb:(aX S ((F i).f p).e).2=⟨kw ((F i).f p),kC ((F i).f p),[]⟩:=by
  unfold aX at g ⊢;rw[nL ⟨s,(lI b o).1⟩] at g ⊢;rcases yE b (SpcOk.of s) u o with ⟨made,-,h⟩|⟨d,h⟩
  {rw[h];show cI (gw S (F i).f p)=_;unfold cI kw kC gw;dsimp only;split<;>rfl};{rw[h] at g;exact absurd rfl g}
 have t:dT F m=cJ F m:=by unfold dT;rw[eT (by omega)]
 rw[hb];have q:=Ck b o m hi;rw[<-t] at q;obtain⟨j,r,e⟩:=RV.1 q;exact⟨j,r,(kO r).trans e⟩
open Ca
def gA (L:List AV)(i:Nat):Acc:=match L[i]? with
 |some r=>⟨r.n,r.f⟩
 |none=>⟨0,λ_=>dV⟩
theorem mo{L:List AV}{r:AV}(h:L[i]?=T r):gA L i=⟨r.n,r.f⟩:=by unfold gA;rw[h]
structure TxW (w:M)(sb lg:Nat)(L:List AV)(a0:Option Addr)(n0 c0:Nat)(f0:Nat->Source)(a1:Option Addr)(n1 c1:Nat)(f1:Nat->Target)(ta:Option Addr)(ZL:List (List UInt8))(V:M):Prop where
 b:Below w.heap.size w V
 s0:SlSource V a0 n0 f0
 s1:SlTarget V a1 n1 f1
 sx:SBx V sb (Y a0 n0 c0) (Y a1 n1 c1)
 ll:lg<V.heap.size
 row:∀i r,L[i]?=T r->z V (N lg i Z)=T (Y r.a r.n r.c)/\r.n<=r.c/\SlDeed V r.a r.n r.f
 tx:SlStr V ta ZL.length (nmF ZL)
section
variable {w V ZK:M}{sb lg:Nat}{L:List AV}{a0 a1 ta:Option Addr}{n0 c0 n1 c1:Nat}{f0:Nat->Source}{f1:Nat->Target}{ZL:List (List UInt8)}
theorem TxW.aa (h:TxW w sb lg L a0 n0 c0 f0 a1 n1 c1 f1 ta ZL V)(f:Below V.heap.size V ZK):TxW w sb lg L a0 n0 c0 f0 a1 n1 c1 f1 ta ZL ZK :=
 ⟨h.b.trans (f.mono h.b.size),h.s0.aa f ly,h.s1.aa f ly,h.sx.aa f ly,lj h.ll f.size,λi r e=>⟨(f.cell (p:=(N lg i Z)) h.ll).trans (h.row i r e).1,(h.row i r e).2.1,(h.row i r e).2.2.aa f ly⟩,h.tx.aa f ly⟩
theorem TxW.acc (h:TxW w sb lg L a0 n0 c0 f0 a1 n1 c1 f1 ta ZL V):AccE V lg L.length (gA L):=by
 refine⟨h.ll,λi hi=>?_⟩;have e:L[i]?=T L[i]:=by simp
 rw[mo e];obtain⟨h1,h2,b⟩:=h.row i _ e;exact⟨_,_,h1,h2,b⟩
end
theorem Cl (a:Option Addr)(n cap:Nat)(w:M)(h1:1048576<(n:Int)):Calls Tryz.prog 3 #[Y a n cap] w λe b=>e=ZD (ZC ZF)/\Below w.heap.size w b:=by go_enter UF,Tryz.ntmps3;go_wp2;go_ret;exact⟨rfl,cM _ _⟩
theorem zp (a:Option Addr)(n cap:Nat)(w:M)(hc:n<=cap)(ZO:ByteSl w a n)(hT:Tab w)(ex:Tab2 w)(hP:Pow w):Calls Tryz.prog 3 #[Y a n cap] w λe w'=>e=ZD (ZC ZF)/\Below w.heap.size w w':=by
 by_cases fd:1048576<(n:Int)
 {exact Cl a n cap w fd};have LY:=ae (λV (m:Below w.heap.size w V)=>(⟨hT.aa m hT.1,ex.aa m ex.1,hP.aa m ly⟩:Tab V/\Tab2 V/\Pow V));have DM:=ae (re a n cap w (by omega) hc ZO);clear hT ex hP ZO hc;go_enter UF,Tryz.ntmps3;go_wp2_with fail;refine DM.out.mono ?_;rintro e ZN ⟨u,L,a0,n0,c0,f0,a1,n1,c1,f1,rfl,hH,R,hA,hL,⟨lg,lc,rfl⟩,ph⟩;clear DM fd;have hn0:=hH.hn0;have hn1:=hH.hn1;have CD:=ae (show ∀i,i<n1->aY (f1 i) from λi hi=>by have:=(hH.az i hi).1;unfold aY;omega);have FW:=ae (show ∀i,i<n1->∀j,j<(f1 i).m->((f1 i).D j).s.size<=maxLen from λi hi j hj=>by have:=(hH.az i hi).2 j hj;unfold maxLen;omega);have HF:Hid (∀r∈L,r.n<=451/\(∀i,i<r.n->dQ (r.f i))/\∀i,i<r.n->eQ (r.f i)):=λr E=>⟨(hA r E).2.1,λi hi=>((hA r E).1.az i hi).fits,λi hi=>((hA r E).1.az i hi).sized⟩
 have ld:Hid (∀i,i<L.length->o6 (gA L i)):=λi hi=>by rw[mo (show L[i]?=T L[i] by simp)];have h:=HF.out _ (gz hi);exact⟨by have:=h.1;show L[i].n<=1048576;omega,h.2.1⟩
 have qr:Hid (∀i,i<L.length->mL (gA L i)):=λi hi=>by rw[mo (show L[i]?=T L[i] by simp)];have h:=HF.out _ (gz hi);exact⟨by have:=h.1;show((L[i].n:Nat):Int)<=9223372036854775807;omega,h.2.2⟩
 have t:Hid (TxW w ZN.heap.size lg L a0 n0 c0 f0 a1 n1 c1 f1 Z [] (ZN.alloc (J #[Y a0 n0 c0,Y a1 n1 c1] 27))):=by have AS:=(BS ZN).alloc ly (J #[Y a0 n0 c0,Y a1 n1 c1] 27);have hs:=hH.sl _ (fF AS ly);have hg:=(R.lt lg rfl).2;exact⟨ph.trans (AS.mono ph.size),hs.1,hs.2,gM ZN _,lj hg AS.size,λi r e=>⟨(AS.cell (p:=(N lg i Z)) hg).trans (aV R (j:=i) (u:=acV r) (by simp[e])).1,(hA r (JF e)).1.cap,(hA r (JF e)).1.sl _ (fF AS ly)⟩,.inl rfl⟩
 clear hH R hA ph;go_upto_region 4 with fail;generalize World.alloc ZN _=W1 at t ⊢;generalize ZN.heap.size=sb at t ⊢;go_wp2_with fail;refine(qY lg L.length lc (gA L) _ (by omega) t.acc ld qr (LY _ t.b).1 (LY _ t.b).2.2).mono ?_;rintro e w2 ⟨v,rfl,ZJ,y⟩;obtain⟨ta,tc,hv⟩:=eS ZJ;cases hv
 have E2:Hid (TxW w sb lg L a0 n0 c0 f0 a1 n1 c1 f1 ta (dT (gA L) L.length) w2):=⟨(t.aa y).b,(t.aa y).s0,(t.aa y).s1,(t.aa y).sx,(t.aa y).ll,(t.aa y).row,Ej ZJ⟩
 clear t ZJ y;have n9:=zk (gA L) L.length
 have TT:=ae (λ(i p:Nat) (r:AV) (E:L[i]?=T r) (h5:L.length<=50) (hi:i<L.length) (ha:(js n0 f0 n1 f1 r.f r.n).1=0) (hp:p<r.n)=>(show(aX ⟨n0,f0,n1,f1⟩ (r.f p).e).2.E≠7->∃j,j<(dT (gA L) L.length).length/\(nmF (dT (gA L) L.length) j).toList=(ep (aX ⟨n0,f0,n1,f1⟩ (r.f p).e).2.E (aX ⟨n0,f0,n1,f1⟩ (r.f p).e).2.y (aX ⟨n0,f0,n1,f1⟩ (r.f p).e).2.w.length).toList from λh7=>by
  have h:=xE (S:=⟨n0,f0,n1,f1⟩) (F:=gA L) (i:=i) (p:=p) h5 hi;rw[mo E] at h
  exact h ha hp h7))
 go_wp2_with fail;refine(qX lg L.length lc (gA L) _ (by omega) E2.acc ld qr).mono ?_;rintro e w3 ⟨b',off',m',c',rfl,rfl,G,ur⟩;have E3:=ae (E2.aa ur);clear E2 ur;generalize dT (gA L) L.length=ZL at E3 TT n9 G ⊢;go_wp2_with fail;refine(xC _ _ ZL.length tc c' (nmF ZL) _ n9 E3.tx (.inr ⟨_,_,rfl,G⟩)).mono ?_;rintro e w4 ⟨rfl,DE⟩;have E4:=ae (E3.aa DE);clear E3 DE G ld qr;go_wp2_with fail;go_loopw [6] (λs wr=>∃i:Nat,i<=L.length/\s=Q I (i:Int)/\Hid (TxW w sb lg L a0 n0 c0 f0 a1 n1 c1 f1 ta ZL wr)) (λs _=>L.length - (intOf s).toNat);case atStart=>exact⟨0,IH _,rfl,E4⟩
 case round =>
  clear E4;obtain⟨i,hi,rfl,E5⟩:=hrel;go_upto_region 8 with fail;go_cut [34] (λs O=>∃ZP:Bool,s=ZC ZP/\(ZP=ZF->i<L.length/\L.length<=50)/\wr=O);case first =>
   by_cases h1:i<L.length
   ·have DQ:(i:Int)<(L.length:Int):=by omega
    by_cases h2:L.length<=50
    ·have FX:(L.length:Int)<=50:=by omega
     go_wp2;go_meet;exact⟨_,rfl,λ_=>⟨h1,h2⟩,rfl⟩
    ·have FX:¬ (L.length:Int)<=50:=by omega
     go_wp2;go_meet;exact⟨ZA,rfl,(λh=>by cases h),rfl⟩
   ·have DQ:¬ (i:Int)<(L.length:Int):=by omega
    go_wp2;go_meet;exact⟨ZA,rfl,(λh=>by cases h),rfl⟩
  case rest =>
  obtain⟨ZP,rfl,C,rfl⟩:=hcut;cases ZP with
  |false =>clear C;have BE:=ae E5.b;clear E5;go_wp2;go_ret;exact⟨rfl,BE⟩
  |true =>
  obtain⟨h1,h2⟩:=C rfl;clear C;obtain⟨r,E⟩:∃r,L[i]?=T r:=⟨L[i],by simp⟩
  have W:=ae E;have bt:=HF.out r (JF E);have hrn:=bt.1;have th:=ae bt.2;have TR:=ae (λp ha hp=>TT.out i p r E h2 h1 ha hp);clear E bt;have DQ:(i:Int)<(L.length:Int):=by omega
  go_upto_region 10 with fail;go_cut [7] (λs O=>s=Q I (js n0 f0 n1 f1 r.f r.n).1/\Hid (TxW w sb lg L a0 n0 c0 f0 a1 n1 c1 f1 ta ZL O));case first =>
   go_wp2_with fail;have D:=ae (E5.aa br.drew);have B:=D.ll;refine wp_region_held_drew (S:=λV=>z V (N sb 0 Z)=T (Y a0 n0 c0)/\z V (N sb 1 Z)=T (Y a1 n1 c1)/\z V (N lg i Z)=T (Y r.a r.n r.c)) (by as_aux_lemma=>kernel_rfl) ⟨D.sx.c0,D.sx.c1,(D.row i r W).1⟩ λZO=>?_;have g:=ae ZO;clear ZO E5;generalize wr.drew=v at D g B ⊢;iterate 5
    refine aR 0 (v:=?_) rfl rfl (by as_aux_lemma=>kernel_rfl) (λ_ _ _ h=>h) rfl ?_ g.out ?_;rotate_left
    ·(rintro wz ⟨s0,s1,s2⟩;go_simp)
     (try with_reducible rfl)
    (try simp only[Act.put,nzL])
   refine aI (i:=5) rfl (by as_aux_lemma=>kernel_rfl) λK o=>?_;go_simp;go_at_call 11;refine(qZ r.a r.n r.c r.f a0 n0 c0 f0 a1 n1 c1 f1 _ (by omega) (by omega) (by omega) (D.row i r W).2.2 th.1 th.2 D.s0 D.s1 CD FW).mono ?_;rintro e v2 ⟨rfl,A⟩;have H:=ae (D.aa A);clear A D g B;have g:=ae (show z v2 (N sb 0 Z)=T (Y a0 n0 c0)/\z v2 (N sb 1 Z)=T (Y a1 n1 c1)/\z v2 (N lg i Z)=T (Y r.a r.n r.c) from⟨H.sx.c0,H.sx.c1,(H.row i r W).1⟩);refine o _ _ g.out ?_;clear o K
   (try simp only[Act.put,nzL])
   iterate 5
    refine aR 6 (v:=?_) rfl rfl (by as_aux_lemma=>kernel_rfl) (λ_ _ _ h=>h) rfl ?_ g.out ?_;rotate_left
    ·(rintro wz ⟨s0,s1,s2⟩;go_simp)
     (try with_reducible rfl)
    (try simp only[Act.put,nzL])
   refine wpAnyH_done (by as_aux_lemma=>kernel_rfl) ?_ _;clear g;go_wp2;go_meet;exact⟨rfl,H⟩
  case rest =>
  clear E5;obtain⟨rfl,H⟩:=hcut;generalize wc=W7 at H ⊢;generalize hq:(js n0 f0 n1 f1 r.f r.n).1=ZR at TR ⊢;clear hq;by_cases hz:ZR=0
  ·subst hz;have TK:=ae (λp hp=>TR.out p rfl hp);clear TR;go_wp2_with fail;go_loopw [9] (λs wr=>∃k:Nat,k<=r.n/\s=Q I (k:Int)/\Hid (TxW w sb lg L a0 n0 c0 f0 a1 n1 c1 f1 ta ZL wr)) (λs _=>r.n - (intOf s).toNat);case atStart=>exact⟨0,IH _,rfl,H⟩
   case round =>
    clear H;obtain⟨k,hk,rfl,ZI⟩:=hrel;have x0:=(ZI.row i r W).1;have B:=ZI.ll;go_upto_region 13 with fail;go_cut [59] (λs O=>∃ZP:Bool,s=ZC ZP/\(ZP=ZF->k<r.n)/\wr=O);case first =>
     by_cases g1:k<r.n
     ·have At:(k:Int)<(r.n:Int):=by omega
      by_cases g2:(k:Int)<12;{go_wp2;go_meet;exact⟨_,rfl,λ_=>g1,rfl⟩};{go_wp2;go_meet;exact⟨ZA,rfl,(λh=>by cases h),rfl⟩}
     ·have At:¬ (k:Int)<(r.n:Int):=by omega
      go_wp2;go_meet;exact⟨ZA,rfl,(λh=>by cases h),rfl⟩
    case rest =>
    clear x0 B;obtain⟨ZP,rfl,C,rfl⟩:=hcut;cases ZP with
    |false =>clear C;go_wp2;exact⟨⟨i+1,by omega,by go_num,ZI⟩,by simp[intOf];omega⟩
    |true =>
     have g1:=C rfl;have At:(k:Int)<(r.n:Int):=by omega
     clear C;have ZQ:=ae (TK.out k g1);obtain⟨db,dd,FP,ro⟩:∃b off,r.a=T (N b off Z)/\RowDeed wr b off r.n r.f:=by
      rcases(ZI.row i r W).2.2 with h|h;{omega};{exact h}
     have aq:=(ro.2 k g1).1;have DS:=ro.1;clear ro;generalize (r.f k).e=nm at ZQ aq;have CB:=ae (λV (m:TxW w sb lg L a0 n0 c0 f0 a1 n1 c1 f1 ta ZL V)=>qW (S:=⟨n0,f0,n1,f1⟩) (c0:=c0) (c1:=c1) V nm m.s0 m.s1 (by show n0<=1048576;omega) (by show n1<=1048576;omega) CD (LY V m.b).1 (LY V m.b).2.1 (LY V m.b).2.2);generalize (aX ⟨n0,f0,n1,f1⟩ nm).2=rs at ZQ CB;go_upto_region 15 with fail;go_cut [10] (λs O=>∃(bb:Nat) (ra:Option Addr) (X:Nat),s=.pointer (T (N bb 0 Z))/\Hid (TxW w sb lg L a0 n0 c0 f0 a1 n1 c1 f1 ta ZL O)/\Hid (RB O bb rs.E rs.y (Y ra rs.w.length X)));case first =>
      go_wp2_with fail;have q:=ae (ZI.aa br.drew);have B:=q.ll;have ZK:db<wr.drew.heap.size:=DS;refine wp_region_held_drew (S:=λV=>z V (N sb 0 Z)=T (Y a0 n0 c0)/\z V (N sb 1 Z)=T (Y a1 n1 c1)/\z V (N lg i Z)=T (Y r.a r.n r.c)/\z V (N db (dd+k*6) Z)=T (U nm)) (by as_aux_lemma=>kernel_rfl) ⟨q.sx.c0,q.sx.c1,(q.row i r W).1,aq⟩ λZO=>?_;have g:=ae ZO;clear ZO ZI;generalize wr.drew=v at q g B ZK ⊢;iterate 10
       refine aR 0 (v:=?_) rfl rfl (by as_aux_lemma=>kernel_rfl) (λ_ _ _ h=>h) rfl ?_ g.out ?_;rotate_left
       ·(intro wz ZM;obtain⟨s0,s1,s2,s3⟩:=ZM;(try rw[FP] at s2 ⊢);go_simp)
        (try with_reducible rfl)
       (try simp only[Act.put,nzL])
      obtain⟨P,EB,sm,Bk,l⟩:∃P,Hid (TxW w sb lg L a0 n0 c0 f0 a1 n1 c1 f1 ta ZL P)/\db<P.heap.size/\z P (N db (dd+k*6) Z)=T (U nm)/\Hid (RgM P v Z Z):=⟨v,q,ZK,g.2.2.2,⟨cM _ _,(λ_ _ e=>by cases e),(λ_ _ e=>by cases e)⟩⟩
      have QS:=ae (λV (m:Below P.heap.size P V)=>(⟨(EB.aa m).sx.c0,(EB.aa m).sx.c1,((EB.aa m).row i r W).1,(m.cell (p:=(N db (dd+k*6) Z)) sm).trans Bk⟩:z V (N sb 0 Z)=T (Y a0 n0 c0)/\z V (N sb 1 Z)=T (Y a1 n1 c1)/\z V (N lg i Z)=T (Y r.a r.n r.c)/\z V (N db (dd+k*6) Z)=T (U nm)));clear q ZK B sm Bk;refine fW (i:=10) (j:=11) rfl rfl (by as_aux_lemma=>kernel_rfl) (λK o=>?_) (λK o=>?_);repeat' first
       |(guard_hyp QM;(fail_if_success guard_hyp Z8);refine aI (i:=11) rfl (by as_aux_lemma=>kernel_rfl) (λK o=>?_))
       |(guard_hyp Z8;(fail_if_success guard_hyp QM);refine aI (i:=10) rfl (by as_aux_lemma=>kernel_rfl) (λK o=>?_))
       |(guard_hyp Z8;guard_hyp QM;(fail_if_success guard_hyp mv);refine aI (i:=12) rfl (by as_aux_lemma=>kernel_rfl) (λK o=>?_))
       |(guard_hyp mv;refine wpAnyH_done (by as_aux_lemma=>kernel_rfl) ?_ _;clear g;go_wp2;go_meet;exact⟨_,_,_,rfl,EB.out.aa l.b,FV⟩)
       |((fail_if_success guard_hyp QM);go_simp;go_at_call 12;refine(CB.out _ (EB.out.aa l.b)).mono ?_;rintro e v2 ⟨rv,rfl,⟨ra,X,rfl,-⟩,A⟩;replace l:=ae (l.out.aa A);clear A g;have g:=ae (QS.out _ l.b);refine o _ _ g.out ?_;clear o K;obtain⟨v,rfl⟩:∃x,x=v2:=⟨_,rfl⟩;(try simp only[Act.put,nzL]);have QM:=True.intro)
       |((fail_if_success guard_hyp Z8);replace l:=ae (l.out.newR #[Q I 0,U ⟨#[]⟩,Y Z 0 0]);clear g;have g:=ae (QS.out _ l.b);go_simp;refine o _ _ g.out ?_;clear o K;obtain⟨p8,e7⟩:∃x,v.heap.size=x:=⟨_,rfl⟩;rw[e7] at l ⊢;clear e7;obtain⟨v,e7⟩:∃x,v.alloc (J #[Q I 0,U ⟨#[]⟩,Y Z 0 0] 39)=x:=⟨_,rfl⟩;rw[e7] at l g ⊢;clear e7;(try simp only[Act.put,nzL]);have Z8:=True.intro)
       |((fail_if_success guard_hyp mv);obtain⟨FZ,FQ,Fm,FY,Fk,FO,Fd⟩:=l.out.cR;have FV:Hid (RB (((v.setCell (N p8 0 Z) (Q I rs.E)).setCell (N p8 1 Z) (U rs.y)).setCell (N p8 2 Z) (Y ra rs.w.length X)) p8 rs.E rs.y (Y ra rs.w.length X)):=bJ (bJ (bJ (l.out.r _ _ rfl).2 _) _) _;replace l:=ae (l.out.endR (Q I rs.E) (U rs.y) (Y ra rs.w.length X));clear g;have g:=ae (QS.out _ l.b);go_simp;clear FZ FQ Fm FY Fk FO Fd;refine o _ _ g.out ?_;clear o K;(try simp only[Act.put,nzL]);have mv:=True.intro)
     case rest =>
     clear ZI CB aq;obtain⟨bb,ra,X,rfl,q,RX⟩:=hcut;generalize wc=W9 at q RX ⊢;obtain⟨kc,kt,FK⟩:=rs;dsimp only at ZQ RX;obtain⟨x0,x1,x2⟩:=RX.out.c;have x3:=ar RX.out;by_cases h7:kc=7;{subst h7;go_wp2;exact⟨⟨k+1,by omega,by go_num,q⟩,by simp[intOf];omega⟩}
     ·have h7b:(kc == 7)=ZA:=by simpa using h7
      have HJ:=ae (ZQ.out h7);clear ZQ RX;go_wp2_with fail;refine(kZ kc kt ra FK.length X _ (LY _ q.b).2.2).mono ?_;rintro e w10 ⟨rfl,A⟩;have n8:=ae (q.aa A);clear A q x0 x1 x2 x3;go_wp2_with fail;refine(Ek ta ZL.length tc (nmF ZL) _ _ n9 n8.tx).mono ?_;rintro e w11 ⟨b,rfl,hb,A⟩;have FU:b=ZF:=hb.2 HJ.out;subst FU;have FM:=ae (n8.aa A);clear A n8 hb;go_wp2;exact⟨⟨k+1,by omega,by go_num,FM⟩,by simp[intOf];omega⟩
  ·have hzb:(ZR == 0)=ZA:=by simpa using hz
   go_wp2;exact⟨⟨i+1,by omega,by go_num,H⟩,by simp[intOf];omega⟩
