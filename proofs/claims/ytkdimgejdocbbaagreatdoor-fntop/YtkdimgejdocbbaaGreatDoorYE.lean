import Derived.Test.YtkdimgejdocbbaaGreatDoorZC
import Derived.RangeFuncNested
import Derived.RangeFuncBound
import Derived.RangeFuncCalls
import Derived.RangeFuncLeaves
import Derived.Shelf.Abstract
import Derived.Shelf.RegionOpen
import Derived.OwnWalkIn
import Derived.TacticsInMore
import Derived.LoopNIn
import Derived.LoopIn
import Derived.Sort.QuietIn
import Derived.Sort.BigQuietIn
import Derived.Sort.CutIn
import Derived.Test.YtkdimgejdocbbaaGreatDoorZE
import Derived.Maps.OwnSet
import Derived.Maps.Views
import Derived.StringKeys
set_option maxRecDepth 100000
set_option maxHeartbeats 4000000
open Go.Addr renaming mk->J
open Go.Value renaming slice->Y,string->U,int->N,bool->QA,agg->QE
open Option renaming none->Z,some->Q
open Go.Obj renaming cells->T
open Go.IntKind renaming i64->I
open Go renaming World->E,Value->QB,TypeId->QF
open Bool renaming false->D,true->QC
open Go.Ending renaming returned->QD
namespace Go.Proofs.YtkdimgejdocbbaaGreatDoor.Vp
open RowKit
theorem Cz {f:Nat->aj}{k:Nat}{QQ:DataW Unit}(b:Maps.IsMap QQ)(h:∀ p,Maps.has QQ (.string (f p).name.data.toList)=!aQ f p k)(d:DataW Unit):∀ p,Maps.has (QQ.put (.string (f k).name.data.toList) d) (.string (f p).name.data.toList)=!aQ f p (k+1):=by
 intro p;rw[aQ,Bool.not_and,<-h p,Bool.not_not];by_cases e:(f p).name.data.toList=(f k).name.data.toList
 ·rw[e,Maps.has_put_same b (by simp[WideAt.IsKeyLit])]
  simp[H7,e]
 ·rw[Maps.has_put_other (by simpa using e)]
  have:((f k).name.toList == (f p).name.toList)=D:=by simpa[H7] using fun h=>e (by rw[h])
  rw[this];simp
theorem qK (b off n d:Nat)(f:Nat->aj)(w:E)(hn:(n:Int)<=400)(QM:RowDeed w b off n f)(M:∀ i,i<n->(f i).name.size<=maxLen):Calls Tryz.prog 97 #[QE #[Y (Q (J b off Z)) n d]] w fun e w'=>e=QD (N I (aJ (fun p=>aQ f p p) n))/\Below w.heap.size w w':=by
 have QH:=ae QM;have QG:=ae M;clear QM M;have S:=ae (((Qs w).alloc lr (T #[Y (Q (J b off Z)) n d] 50)).alloc (by simp) (.map #[] 0));have C:=ae (World.ownsMap_made (w.alloc (T #[Y (Q (J b off Z)) n d] 50)) Tryz.prog 9 (plainElem (H:=Unit) Tryz.prog 3));have hz:(w.alloc (T #[Y (Q (J b off Z)) n d] 50)).heap.size=w.heap.size+1:=by simp
 rw[hz] at C;clear hz;obtain⟨r,QN⟩:∃ r,r=aJ (fun p=>aQ f p p) n:=⟨_,rfl⟩
 rw[<-QN];have QJ:=ae QN;clear QN;have O:=@run_makeMap Tryz.prog;go_enter Tryz.func97,Tryz.ntmps97;go_wp2;clear O;generalize (w.alloc (T #[Y (Q (J b off Z)) n d] 50)).alloc (.map #[] 0)=W at S C ⊢;obtain⟨o,y⟩:∃ o,o=w.heap.size+1:=⟨_,rfl⟩
 rw[<-y] at C ⊢;have R:=ae y;clear y;go_loopw [12] (fun i wr=>∃ (k:Nat) (QQ:DataW Unit),k<=n/\i=N I k/\Hid (∀ j,j<k->aQ f j j=QC)/\Hid (wr.ownsMap Tryz.prog 9 (plainElem (H:=Unit) Tryz.prog 3) o k QQ)/\Hid (∀ p,Maps.has QQ (.string (f p).name.data.toList)=!aQ f p k)/\Hid (Below w.heap.size w wr)) (fun i _=>n - (intOf i).toNat);case atStart=>exact⟨0,_,by omega,rfl,fun j L=>absurd L (CS _),C,fun p=>rfl,S⟩
 case round =>
  obtain⟨k,QQ,hk,rfl,QO,B,V,l⟩:=hrel;by_cases z:k<n
  ·obtain⟨p0,p1,p2,p3,⟨a0,u,p4,X⟩,⟨a1,t,p5,q5⟩⟩:=(QH.below l lr).2 k z
   clear X q5;have A:=JY (P:=Tryz.prog) (k:=9) Tryz.underlying9 (QG k z);have h:=ae A;have G:=ae (V k);clear A;cases hnew:aQ f k k with
   | false =>
    have x:Maps.has QQ (.string (f k).name.data.toList)=QC:=by rw[G.out,hnew];rfl
    have HHS:=ae x;obtain rfl:r=k:=by rw[QJ.out];exact iy z hnew QO
    clear hnew;have K:=ae (l.alloc l.size (T #[U (f k).name,N I (f k).kind,N I (f k).code,U (f k).text,Y a0 (f k).actN u,Y a1 (f k).linksN t] 58));go_wp2_with (at_lookup;refine wpList_lookup_own_ok_int _ rfl _ _ 214 rfl 9 3 I (LX Tryz.underlying9) Tryz.underlying214 Tryz.underlying3 (Tryz.zeroValue3 _) o k QQ rfl (B.alloc _) _ _ rfl h ?_;intro c q s;clear q s);go_ret;exact⟨rfl,K⟩
   | true =>
    have x:Maps.has QQ (.string (f k).name.data.toList)=D:=by rw[G.out,hnew];rfl
    have QL:=ae hnew;clear hnew;have QP:(Lit.int I (k:Int)).wf=QC:=by simp only[Lit.wf,IntKind.min,IntKind.max,IntKind.signed,IntKind.bits,gM,j4,if_true];omega
    have QK:=ae QP;clear QP
    go_wp2_with (first
     | (at_lookup;refine wpList_lookup_own_ok_int _ rfl _ _ 214 rfl 9 3 I (LX Tryz.underlying9) Tryz.underlying214 Tryz.underlying3 (Tryz.zeroValue3 _) o k QQ rfl (B.alloc _) _ _ rfl h ?_;intro c q s;clear q s)
     | (at_mapUpdate;refine wpList_mapUpdate_own _ rfl _ _ _ 214 rfl 9 3 (LX Tryz.underlying9) Tryz.underlying214 _ o k QQ rfl (B.alloc _) (by unfold maxLen;omega) _ _ _ rfl rfl h _ [] (plainElem_int Tryz.underlying3 QK) ?_;intro w1 m g;have M1:=ae m;have K:=ae (bg (l.alloc l.size (T #[U (f k).name,N I (f k).kind,N I (f k).code,U (f k).text,Y a0 (f k).actN u,Y a1 (f k).linksN t] 58)) g (by have:=l.size;simp;omega) (fun j e=>by cases e;have:=R.out;omega));clear m g))
    exact⟨⟨k+1,_,by omega,by go_num,fun j L=>by
     by_cases e:j=k
     ·subst e;exact QL
     ·exact QO j (by omega),M1,Cz B.isMap V _,K⟩,by simp[intOf];omega⟩
  ·have e:n=k:=by omega
   subst e;obtain rfl:r=-1:=by rw[QJ.out];exact eh QO
   go_wp2;go_ret;exact⟨rfl,l⟩
end Go.Proofs.YtkdimgejdocbbaaGreatDoor.Vp
namespace Go.Proofs.YtkdimgejdocbbaaGreatDoor.Vp
open RowKit Go.Shelf Ca
attribute [local go_sem] Oper.semAt_some
structure LSt (w0 W:E)(n1 b off n cap L M l:Nat)(s:Nat->Bool):Prop where
 c0:W.cell? (J L 0 Z)=Q (Y (Q (J b off Z)) n cap)
 c1:W.cell? (J L 1 Z)=Q (Y (Q (J M 0 Z)) n n)
 c2:W.cell? (J L 2 Z)=Q (.func (.yield l) #[] #[])
 row:∀ q,q<n->W.cell? (J M q Z)=Q (QA (s q))/\W.frozen? (J M q Z)=D
 low:Below w0.heap.size w0 W
 hL:n1<=L/\L<W.heap.size
 hM:n1<=M/\M<W.heap.size
 ne:L≠M
 hb:w0.heap.size<=n1
 tyM:OfTy W M 4
 tyL:OfTy W L 283
theorem LSt.blocks {f W d:E}{n1 b off n g L M l:Nat}{s:Nat->Bool}(h:LSt f W n1 b off n g L M l s)(hz:W.heap.size<=d.heap.size)(j:d.heap[L]?=W.heap[L]?)(i:d.heap[M]?=W.heap[M]?)(m:Below f.heap.size f d):LSt f d n1 b off n g L M l s:=by have c:∀ o,d.cell? (J L o Z)=W.cell? (J L o Z):=fun o=>cq (a:=(J L o Z)) j;exact⟨(c 0).trans h.c0,(c 1).trans h.c1,(c 2).trans h.c2,fun q k=>⟨(cq (a:=(J M q Z)) i).trans (h.row q k).1,(DC (a:=(J M q Z)) i).trans (h.row q k).2⟩,m,⟨h.hL.1,ll h.hL.2 hz⟩,⟨h.hM.1,ll h.hM.2 hz⟩,h.ne,h.hb,h.tyM.eq i,h.tyL.eq j⟩
theorem LSt.below {f W g:E}{n1 b off n d L M l:Nat}{s:Nat->Bool}(h:LSt f W n1 b off n d L M l s)(hb:Below W.heap.size W g):LSt f g n1 b off n d L M l s :=
 h.blocks hb.size (hb.block L h.hL.2) (hb.block M h.hM.2) (h.low.trans (hb.mono h.low.size))
theorem LSt.upd {g W j:E}{n1 b off n f L M l:Nat}{s:Nat->Bool}{QK:QF}(i:QK≠4/\QK≠283)(h:LSt g W n1 b off n f L M l s)(d:Upd2 QK g.heap.size n1 W j):LSt g j n1 b off n f L M l s :=
 h.blocks d.size (d.block L h.hL.2 (.inr ⟨h.hL.1,h.tyL.ne i.2⟩)) (d.block M h.hM.2 (.inr ⟨h.hM.1,h.tyM.ne i.1⟩)) (h.low.trans (d.below h.low.size))
theorem LSt.set {g W:E}{n1 b off n d L M l p:Nat}{s:Nat->Bool}(h:LSt g W n1 b off n d L M l s)(hp:p<n):LSt g (W.setCell (J M p Z) (QA QC)) n1 b off n d L M l (put s p):=by
 have c:∀ o,(W.setCell (J M p Z) (QA QC)).cell? (J L o Z)=W.cell? (J L o Z):=fun o=>sq _ _ _ _ (by simp;exact fun e=>absurd e.symm h.ne);refine⟨(c 0).trans h.c0,(c 1).trans h.c1,(c 2).trans h.c2,fun q f=>⟨?_,by simpa using(h.row q f).2⟩,h.low.setCell (by have:=h.hM.1;have:=h.hb;show _<=M;omega) _,by simpa using h.hL,by simpa using h.hM,h.ne,h.hb,h.tyM.set _ _,h.tyL.set _ _⟩;by_cases e:q=p
 ·subst e
  rw[AI _ _ _ (by rw[(h.row q f).1];rfl)];simp[put]
 ·rw[sq _ _ _ _ (by simp),(h.row q f).1]
  simp[put,e]
theorem oe {go:Nat->Nat->(Nat->Bool)->(Nat->Bool) × List (Nat × Nat)}{x:aj}{d:Nat}{s:Nat->Bool}{i m:Nat}(h:i<=m):(lks go x d s i).2 <+: (lks go x d s m).2:=by
 induction m with
 | zero =>
  obtain rfl:i=0:=by omega
  exact MY
 | succ k b =>
  by_cases e:i=k+1
  ·subst e;exact MY
  ·refine(b (by omega)).trans ?_
   rw[lks];split
   ·exact NI _ _
   ·exact MY
theorem CB {QK:QF}(hT:QK≠4/\QK≠283)(P:E)(n1 b off n QO L M l:Nat)(H:List (Nat × Nat))(f:Nat->aj)(QN S:List (Nat × Nat)->E->Prop)(hA:fK f n)(hn:(n:Int)<=400)(hf:RowDeed P b off n f)(hlk:∀ p,p<n->(f p).linksN<=200)
  (hJ:∀ s A C,QN s A->Itr 4 n1 A C->QN s C) (n7:∀ s A C,S s A->Itr 4 n1 A C->S s C)
  (hY:∀ m pre (x:Nat × Nat) W,x.1<n->QN pre W->pre++[x] <+: H->n1<=W.heap.size->YieldAt Fence.wide m Tryz.prog l #[N I (x.1:Int),N I (x.2:Int)] W fun e QQ =>
   (e=QD (QA QC)/\QN (pre++[x]) QQ/\Upd2 QK P.heap.size n1 W QQ)∨(e=QD (QA D)/\S (pre++[x]) QQ)) :
  ∀ (k p d:Nat) (s:Nat->Bool) (pre:List (Nat × Nat)) (W:E) (O:Nat),p<k->p<n->d+p<=1000->LSt P W n1 b off n QO L M l s->s p=D->QN pre W->pre++(lst f k p d s).2 <+: H ->
   CallsIn Fence.wide O Tryz.prog 221 #[.pointer (Q (J L 0 Z)),N I (p:Int),N I (d:Int)] W fun e QQ =>(e=QD (QA QC)/\QN (pre++(lst f k p d s).2) QQ/\LSt P QQ n1 b off n QO L M l (lst f k p d s).1)∨(e=QD (QA D)/\∃ q,q <+: (lst f k p d s).2/\S (pre++q) QQ):=by
 intro k;induction k with
 | zero=>intro p d s pre W O h;omega
 | succ k ih =>
  intro p d s pre W O hpk G hdp hS hs n9 hN;have HS:=ae hS;have DQ:=ae n9;have HN:=ae hN;have Fh:=ae ih;have HY:=ae hY;have HJ:=ae hJ;have HJx:=ae n7;have HA:=ae hA;have HF:=ae hf;obtain⟨_,_,_,_,_,⟨a1,cap1,ro,q5⟩⟩:=hf.2 p G;have p5:=(hS.low.cell (p:=(J b (off+p*6+5) Z)) hf.1).trans ro;obtain⟨m,hm⟩:∃ m,m=(f p).linksN:=⟨_,rfl⟩
  have hm2:m<=200:=by rw[hm];exact hlk p G
  rw[<-hm] at p5 q5;have HL:=ae q5;have HM:=ae hm;have e0:=hS.c0;obtain⟨K,hK⟩:∃ K,K=lks (lst f k) (f p) d s:=⟨_,rfl⟩
  have QM:Hid (lst f (k+1) p d s=(put (K m).1 p,(K m).2++[(p,d)])):=by rw[hK,hm];rfl
  have ph:Hid (K 0=(s,[])):=by rw[hK];rfl
  have DE:Hid (∀ j,K (j+1)=if ((f p).links j).ask=QC/\(K j).1 ((f p).links j).at_.toNat=D then ((lst f k ((f p).links j).at_.toNat (d+1) (K j).1).1,(K j).2++(lst f k ((f p).links j).at_.toNat (d+1) (K j).1).2) else K j):=fun j=>by rw[hK];rfl
  have Bk:Hid (∀ i,i<=m->(K i).2 <+: (K m).2):=fun i hi=>by rw[hK];exact oe hi
  clear hS n9 hN ih hY hJ n7 hA hf q5 hm hlk ro hK;refine callsIn_of_wp Tryz.func221 rfl trivial ?_ rfl;simp only[Tryz.ntmps221,JK,o3,ES,Nat.reduceAdd,Nat.reduceSub,JU,JV,KP,J1,IM,I4];gi_wp2;clear e0 p5;gi_loopw [18] (fun i wr=>∃ j:Nat,j<=m/\i=N I j/\Hid (LSt P wr n1 b off n QO L M l (K j).1)/\Hid (QN (pre++(K j).2) wr)) (fun i _=>m - (intOf i).toNat);case atStart=>exact⟨0,by omega,rfl,by rw[ph.out];exact HS,by rw[ph.out,MZ];exact DQ⟩
  case round =>
   obtain⟨j,hj,rfl,o,n8⟩:=hrel;by_cases DA:j<m
   ·obtain⟨lb,lo,rfl,ex⟩:=(HL.below o.low lr).resolve_left (by omega)
    obtain⟨d0,d1,d2,d3⟩:=ex.2 j DA;clear ex;have aq:=DE.out j;have bt:=HA.out p G j (by have:=HM.out;omega);generalize (f p).links j=x at d0 d1 d2 d3 aq bt;have fd:=ae aq;clear aq;have QP:=ae (o.below (br.alloc lr (T #[U x.name,QA x.ask,QA x.has,N I x.at_] 64)));have QH:=ae (HJ _ _ _ n8 (Itr.of_below ((Qs wr).alloc lr (T #[U x.name,QA x.ask,QA x.has,N I x.at_] 64)) lr (by have:=o.hL;omega)));have e1:(wr.alloc (T #[U x.name,QA x.ask,QA x.has,N I x.at_] 64)).cell? (J wr.heap.size 1 Z)=Q (QA x.ask):=by simp
    have e3:(wr.alloc (T #[U x.name,QA x.ask,QA x.has,N I x.at_] 64)).cell? (J wr.heap.size 3 Z)=Q (N I x.at_):=by simp
    have sm:=ae bt;clear bt;gi_upto_region 4 with fail;clear d0 d1 d2 d3;generalize wr.alloc (T #[U x.name,QA x.ask,QA x.has,N I x.at_] 64)=u at QP QH e1 e3 ⊢;generalize wr.heap.size=X at e1 e3 ⊢;cases hask:x.ask with
    | false =>
     have g:K (j+1)=K j:=by rw[fd.out,a8 (by rw[hask];simp)]
     have t:=ae g;clear g;rw[hask] at e1;have At:∀ f,Fence.wide.fn f=True:=fun _=>rfl;gi_quiet (fail);have R:=ae (QP.below (wC (Qs u) nq));have QG:=ae (HJ _ _ _ QH (Itr.of_below (wC (Qs u) nq) lr (by have:=QP.hL;omega)));gi_wp2;exact⟨⟨j+1,by omega,by go_num,by rw[t.out];exact R,by rw[t.out];exact QG⟩,by simp[intOf];omega⟩
    | true =>
     obtain⟨q,hq⟩:∃ q:Nat,x.at_=(q:Int):=⟨x.at_.toNat,by have:=(sm hask).2;omega⟩
     have hqp:q<p:=by have:=(sm hask).1;rw[hq] at this;simpa using this
     rw[hq] at e3;rw[hask] at e1;have f1:=QP.c1;obtain⟨f2,_⟩:=QP.row q (by omega);have hq0:(0:Int)<=q:=by omega
     have hqn:(q:Int)<n:=by omega
     have At:∀ f,Fence.wide.fn f=True:=fun _=>rfl;cases hl:(K j).1 q with
     | true =>
      have g:K (j+1)=K j:=by rw[fd.out,a8 (by rw[hq];simp[hl])]
      have t:=ae g;clear g;rw[hl] at f2;gi_quiet (fail);have R:=ae (QP.below (wC (Qs u) nq));have QG:=ae (HJ _ _ _ QH (Itr.of_below (wC (Qs u) nq) lr (by have:=QP.hL;omega)));gi_wp2;exact⟨⟨j+1,by omega,by go_num,by rw[t.out];exact R,by rw[t.out];exact QG⟩,by simp[intOf];omega⟩
     | false =>
      have g:K (j+1)=((lst f k q (d+1) (K j).1).1,(K j).2++(lst f k q (d+1) (K j).1).2):=by rw[fd.out,eT ⟨hask,by rw[hq];simpa using hl⟩,hq];simp
      have t:=ae g;have V:=Bk.out (j+1) (by omega);rw[g] at V;have mv:=ae V;have la:((d+1:Nat):Int)=(d:Int)+1:=by omega
      have HC:Hid (∀ W2 O,LSt P W2 n1 b off n QO L M l (K j).1->QN (pre++(K j).2) W2->CallsIn Fence.wide O Tryz.prog 221 #[.pointer (Q (J L 0 Z)),N I (q:Int),N I ((d:Int)+1)] W2 fun e QQ =>
        ∃ r:Bool,e=QD (QA r)/\Hid ((r=QC/\QN (pre++(K (j+1)).2) QQ/\LSt P QQ n1 b off n QO L M l (K (j+1)).1)∨(r=D/\∃ q,q <+: (K m).2++[(p,d)]/\S (pre++q) QQ))):=by
       intro W2 O h1 h2;have QL:(pre++(K j).2)++(lst f k q (d+1) (K j).1).2 <+: H:=by have B:=HN.out;rw[QM.out] at B;obtain⟨z,hz⟩:=B;obtain⟨y,QJ⟩:=mv.out;exact⟨y++[(p,d)]++z,by rw[<-hz];simp only[];rw[<-QJ];simp⟩
       have h:=Fh.out q (d+1) (K j).1 (pre++(K j).2) W2 O (by omega) (by omega) (by omega) h1 hl h2 QL;rw[la] at h;refine h.mono fun e QQ h=>?_;rcases h with ⟨he,hj,hs⟩ | ⟨he,q',Fi,hx⟩
       ·exact⟨QC,he,.inl ⟨rfl,by rw[t.out,<-IA];exact hj,by rw[t.out];exact hs⟩⟩
       ·refine⟨D,he,.inr ⟨rfl,(K j).2++q',?_,by rw[<-IA];exact hx⟩⟩
        obtain⟨z,hz⟩:=Fi;obtain⟨y,QJ⟩:=mv.out;exact⟨z++y++[(p,d)],by rw[<-QJ,<-hz];simp⟩
      have th:=ae (QP.below ((Qs u).drew));have ur:=ae (HJ _ _ _ QH (Itr.of_below (Qs u).drew lr (by have:=QP.hL;omega)));have hwr:IntKind.i64.wrap ((d:Int)+1)=(d:Int)+1:=by rw[p9];omega
      clear g V;rw[hl] at f2;gi_region_with ((try refine⟨fun h=>(by cases h),?_⟩);gi_at_call 221;refine(HC _ _ ?_ ?_).mono ?_;(first | exact th | exact QP);(first | exact ur | exact QH);rintro e W3 ⟨r,rfl,H3⟩);all_goals
       cases r with
       | true =>have B:=H3.resolve_right (fun h=>by cases h.1);have S3:=ae B.2.2;have J3:=ae B.2.1;clear B H3;gi_wp2;exact⟨⟨j+1,by omega,by go_num,S3,J3⟩,by simp[intOf];omega⟩
       | false =>have B:=H3.resolve_left (fun h=>by cases h.1);have X3:=ae B.2;clear B H3;gi_wp2;go_ret;rw[QM.out];exact .inr ⟨rfl,X3⟩
   ·have e:m=j:=by omega
    subst e;have R:=ae (o.set G);have QG:=ae (HJ _ _ _ n8 (Itr.setCell wr (p:=(J M p Z)) o.hM.1 o.tyM (QA QC)));have QL:(pre++(K m).2)++[(p,d)] <+: H:=by have B:=HN.out;rw[QM.out] at B;simpa using B
    have Fd:=HY.out (O - 1) (pre++(K m).2) (p,d) _ G QG QL (by have:=o.hL;simp;omega);obtain⟨fn,tmps,assign,body,QJ,hR⟩:=Fd;dsimp only at QJ;have HR:=ae hR;clear hR;have g1:=o.c1;obtain⟨g3,g4⟩:=o.row p G;have g2:=R.c2;have hp0:(0:Int)<=p:=by omega
    have hpn':(p:Int)<n:=by omega
    gi_wp2;refine⟨fun h=>(by cases h),HR.mono ?_⟩;rintro e W3 (⟨rfl,n6,qr⟩ | ⟨rfl,ld⟩)
    ·have J3:=ae n6
     have S3:=ae (R.upd hT qr);clear n6 qr;gi_wp2;go_ret;rw[QM.out];exact .inl ⟨rfl,by rw[<-IA];exact J3,S3⟩
    ·have X3:=ae ld
     clear ld;gi_wp2;go_ret;rw[QM.out];exact .inr ⟨rfl,_,MY,by rw[<-IA];exact X3⟩
attribute [local go_sem] Oper.semAt_some
theorem zQ {F:Fence}(g:F.depth=Z){m i:Nat}{P:Program}{l:Nat}{f:FuncId}{tmps:Array QB}{assign body:Code}{w:E}{R:Ending->E->Prop}
  (h:RoundIn F m P l f tmps assign body w R):RoundIn F i P l f tmps assign body w R:=⟨h.1,fun c b _=>h.2 c b (fun d h=>by rw[g] at h;cases h)⟩
theorem zR {F:Fence}(b:F.depth=Z){m:Nat}(f:Nat){P:Program}{l:Nat}{args:Array QB}{W:E}{R:Ending->E->Prop}(h:YieldAt F m P l args W R):YieldAt F f P l args W R:=by obtain⟨fn,tmps,assign,body,d,hR⟩:=h;exact⟨fn,tmps,assign,body,d,zQ b hR⟩
theorem zT:(Tryz.prog.info? 4).map (fun i=>(i.zero,i.size,i.bytes))=Q (Q (QA D),1,1):=by kernel_rfl
def bD (n:Nat):Array QB:=madeCells (Value.bool D).cells n
theorem x7 (n:Nat)(hn:n<=1048576)(w:E):(Instr.makeSlice 155 (N I (n:Int)) (N I (n:Int))).run Tryz.prog w=.ok (Y (Q (J w.heap.size 0 Z)) n n) (w.alloc (T (bD n) 4)):=by obtain⟨i,hi,hz⟩:=KE.1 zT;simp only[CV] at hz;obtain⟨h1,h2,b⟩:=hz;have h:=run_make (P:=Tryz.prog) w 155 4 i _ Tryz.underlying155 hi h1 I I n n (by omega) (Int.le_refl _) (by rw[b];omega) (by omega);rw[h2] at h;simpa[bD] using h
theorem rS (n q:Nat)(h:q<n):(bD n)[q]?=Q (QA D):=by unfold bD madeCells;simp[Value.cells,h,Nat.mod_one]
theorem og (W:E)(n q:Nat)(h:q<n):(W.alloc (T (bD n) 4)).cell? (J W.heap.size q Z)=Q (QA D)/\(W.alloc (T (bD n) 4)).frozen? (J W.heap.size q Z)=D:=by
 have e:=eL W (T (bD n) 4);refine⟨?_,?_⟩
 ·rw[cell_of_row _ _ _ _ _ _ e]
  exact rS n q h
 ·unfold World.frozen?
  rw[e];simp
theorem zU {g W:E}{b off n f l:Nat}(d:Below g.heap.size g W):LSt g ((W.alloc (T (bD n) 4)).alloc (T #[Y (Q (J b off Z)) n f,Y (Q (J W.heap.size 0 Z)) n n,.func (.yield l) #[] #[]] 283)).drew W.heap.size b off n f (W.heap.size+1) W.heap.size l (fun _=>D):=by
 have hz:(W.alloc (T (bD n) 4)).heap.size=W.heap.size+1:=by simp
 have QQ:Below (W.heap.size+1) (W.alloc (T (bD n) 4)) ((W.alloc (T (bD n) 4)).alloc (T #[Y (Q (J b off Z)) n f,Y (Q (J W.heap.size 0 Z)) n n,.func (.yield l) #[] #[]] 283)).drew:=(br.alloc (by omega) _).drew;refine⟨?_,?_,?_,fun q i=>?_,((d.alloc d.size _).alloc (by simp;have:=d.size;omega) _).drew,by simp,by simp;omega,by omega,d.size,?_,?_⟩
 ·simp
 ·simp
 ·simp
 ·exact⟨(QQ.cell (p:=(J W.heap.size q Z)) (lj _)).trans (og W n q i).1,(QQ.frozen (p:=(J W.heap.size q Z)) (lj _)).trans (og W n q i).2⟩
 ·exact(OfTy.new W _ _).eq (QQ.block _ (lj _))
 ·have h:=OfTy.new (W.alloc (T (bD n) 4)) #[Y (Q (J b off Z)) n f,Y (Q (J W.heap.size 0 Z)) n n,.func (.yield l) #[] #[]] 283
  rw[hz] at h;exact h.eq rfl
theorem zV {g W:E}{b off n d l:Nat}(f:Below g.heap.size g W):LSt g ((W.alloc (T #[Y (Q (J b off Z)) n d,Y (Q (J (W.heap.size+1) 0 Z)) n n,.func (.yield l) #[] #[]] 283)).alloc (T (bD n) 4)).drew W.heap.size b off n d W.heap.size (W.heap.size+1) l (fun _=>D):=by
 have hz:(W.alloc (T #[Y (Q (J b off Z)) n d,Y (Q (J (W.heap.size+1) 0 Z)) n n,.func (.yield l) #[] #[]] 283)).heap.size=W.heap.size+1:=by simp
 have QQ:Below (W.heap.size+1) (W.alloc (T #[Y (Q (J b off Z)) n d,Y (Q (J (W.heap.size+1) 0 Z)) n n,.func (.yield l) #[] #[]] 283)) ((W.alloc (T #[Y (Q (J b off Z)) n d,Y (Q (J (W.heap.size+1) 0 Z)) n n,.func (.yield l) #[] #[]] 283)).alloc (T (bD n) 4)).drew:=(br.alloc (by omega) _).drew;refine⟨(QQ.cell (p:=(J W.heap.size 0 Z)) (lj _)).trans (by simp),(QQ.cell (p:=(J W.heap.size 1 Z)) (lj _)).trans (by simp),(QQ.cell (p:=(J W.heap.size 2 Z)) (lj _)).trans (by simp),fun q i=>?_,((f.alloc f.size _).alloc (by simp;have:=f.size;omega) _).drew,by simp;omega,by simp,by omega,f.size,?_,?_⟩
 ·have h:=og (W.alloc (T #[Y (Q (J b off Z)) n d,Y (Q (J (W.heap.size+1) 0 Z)) n n,.func (.yield l) #[] #[]] 283)) n q i
  rw[hz] at h;exact h
 ·have h:=OfTy.new (W.alloc (T #[Y (Q (J b off Z)) n d,Y (Q (J (W.heap.size+1) 0 Z)) n n,.func (.yield l) #[] #[]] 283)) (bD n) 4
  rw[hz] at h;exact h.eq rfl
 ·exact(OfTy.new W _ _).eq (QQ.block _ (lj _))
theorem oh (v:QB)(w:E)(d:Nat):CallsIn Fence.wide d Tryz.prog 169 #[QE #[v]] w fun e b=>e=QD (.func (.func 220) #[] #[.pointer (Q (J w.heap.size 0 Z))])/\b=w.alloc (T #[v] 50):=by refine callsIn_of_wp Tryz.func169 rfl trivial ?_ rfl;simp only[Tryz.ntmps169,JK,o3,ES,Nat.reduceAdd,Nat.reduceSub,JU,JV,KP,J1,IM,I4];gi_wp2;go_ret;exact⟨rfl,rfl⟩
theorem rT {QK:QF}(hT:QK≠4/\QK≠283)(i:E)(b off n d s z:Nat)(f:Nat->aj)(w:E)(S:fK f n)(hn1:1<=n)(hn:(n:Int)<=400)(R:RowDeed i b off n f)(hlk:∀ p,p<n->(f p).linksN<=200)(g:Below i.heap.size i w)(QO:w.cell? (J s 0 Z)=Q (Y (Q (J b off Z)) n d))(y:s<w.heap.size):SeqT2 QK 4 Fence.wide z Tryz.prog 220 #[.pointer (Q (J s 0 Z))] (fun x:Nat × Nat=>#[Value.int I (x.1:Int),Value.int I (x.2:Int)]) (fun pre x=>x.1<n/\pre++[x] <+: aB f n) i.heap.size (fun k=>k=aB f n) (fun pre=>pre <+: aB f n) w:=by
 intro l QN K W B hJ QQ hY A;have QH:=CB hT i W.heap.size b off n d;have G:=ae QH;clear QH;have hB:=(B.cell (p:=(J s 0 Z)) y).trans QO;have QG:=fun w=>x7 n (by omega) w;have hwb:IntKind.i64.wrap ((n:Int) - 1)=(n:Int) - 1:=by rw[p9];omega
 have P:=ae hJ;have H:=ae QQ;have HY:=ae hY;have H0:=ae A;have HA:=ae S;have HF:=ae R;have C:=ae hlk;have j:=ae (g.trans (B.mono g.size));have aq:s<W.heap.size:=ll y B.size;clear hJ QQ hY A S R hlk g B QO y;refine callsIn_of_wp Tryz.func220 rfl trivial ?_ rfl;simp only[Tryz.ntmps220,JK,o3,ES,Nat.reduceAdd,Nat.reduceSub,JU,JV,KP,J1,IM,I4];have QP:∀ L M u,LSt i u W.heap.size b off n d L M l (fun _=>D)->Below W.heap.size W u->CallsIn Fence.wide (z - 1) Tryz.prog 221 #[.pointer (Q (J L 0 Z)),N I ((n:Int) - 1),N I 0] u fun e o =>
   ∃ r:Bool,e=QD (QA r)/\Hid ((∃ k,k=aB f n/\QN k o)∨(∃ pre,pre <+: aB f n/\K pre o)):=by
  intro L M u O QJ;have h:=G.out L M l (aB f n) f QN K HA hn HF C P H (fun m pre x W1 A h1 h2 h3=>zR rfl m (HY pre x W1 ⟨A,h2⟩ h1 h3)) n (n - 1) 0 (fun _=>D) [] u (z - 1) (by omega) (by omega) (by omega) O rfl (P _ _ _ H0 (Itr.of_below QJ lr  lr)) (by simp[aB]);rw[show((n - 1:Nat):Int)=(n:Int) - 1 by omega] at h;refine h.mono fun e o h=>?_;rcases h with ⟨QL,hj,_⟩ | ⟨QL,q,hq,hx⟩
  ·exact⟨QC,QL,.inl ⟨_,rfl,by simpa[aB] using hj⟩⟩
  ·exact⟨D,QL,.inr ⟨q,hq,by simpa using hx⟩⟩
 have t:=ae QP;have V:=ae (((Qs W).alloc lr (T (bD n) 4)).alloc (by simp) (T #[Y (Q (J b off Z)) n d,Y (Q (J W.heap.size 0 Z)) n n,.func (.yield l) #[] #[]] 283)).drew;have D2:=ae (((Qs W).alloc lr (T #[Y (Q (J b off Z)) n d,Y (Q (J (W.heap.size+1) 0 Z)) n n,.func (.yield l) #[] #[]] 283)).alloc (by simp) (T (bD n) 4)).drew;have hfw:∀ f,Fence.wide.fn f=True:=fun _=>rfl;clear QP G P H HY H0 HA HF C;gi_upto_region 0 with fail;gi_cut [3] from 4 (fun s3 X=>∃ L,s3=.pointer (Q (J L 0 Z))/\Hid (∃ M,LSt i X W.heap.size b off n d L M l (fun _=>D))/\Hid (Below W.heap.size W X));case first =>
  have hsf:=fun(w:E) (a:Addr) (m:Mode)=>ND Tryz.prog w a (.func (.yield l) #[] #[]) m rfl;gi_region_with fail;all_goals
   gi_wp2_with fail;gi_meet;first
    | exact⟨W.heap.size+1,rfl,⟨W.heap.size,zU j⟩,V⟩
    | exact⟨W.heap.size,rfl,⟨W.heap.size+1,zV j⟩,D2⟩
 case rest =>
 obtain⟨L,rfl,HS,QM⟩:=hcut;have hB1:=(QM.cell (p:=(J s 0 Z)) aq).trans hB;have HC:Hid (CallsIn Fence.wide (z - 1) Tryz.prog 221 #[.pointer (Q (J L 0 Z)),N I ((n:Int) - 1),N I 0] wc fun e o=>∃ r:Bool,e=QD (QA r)/\Hid ((∃ k,k=aB f n/\QN k o)∨(∃ pre,pre <+: aB f n/\K pre o))):=by obtain⟨M,O⟩:=HS.out;exact t L M wc O QM
 clear t HS QG QM j V D2 hB;gi_wp2_with ((try refine⟨fun h=>(by cases h),?_⟩);gi_at_call 221;refine HC.mono ?_;rintro e W3 ⟨r,rfl,H3⟩);go_end0;exact⟨⟨_,rfl⟩,H3⟩
theorem mK (d:E)(b off n i g l:Nat)(f:Nat->aj)(w:E)(s:fK f n)(hn1:1<=n)(r:(n:Int)<=400)(q:RowDeed d b off n f)(hlk:∀ p,p<n->(f p).linksN<=200)(j:Below d.heap.size d w)(k:w.cell? (J g 0 Z)=Q (Y (Q (J b off Z)) n i))(m:g<w.heap.size):zz Fence.wide l Tryz.prog 220 #[.pointer (Q (J g 0 Z))] (fun x:Nat × Nat=>#[Value.int I (x.1:Int),Value.int I (x.2:Int)]) (fun x=>x.1<n) d.heap.size (fun o=>o=aB f n) (fun pre=>pre <+: aB f n) (aB f n).length w :=
 (rT (QK:=58) ⟨by decide,by decide⟩ d b off n i g l f w s hn1 r q hlk j k m).plain fun pre x h=>⟨h.1,by have:=h.2.length_le;simp at this;omega⟩
attribute [local go_sem] Oper.semAt_some
theorem ol {i:Nat}{pre:List (Nat × Nat)}{x:Nat × Nat}(h:bz i pre=-1):bz i (pre++[x])=if x.1=i+pre.length then -1 else ((i+pre.length:Nat):Int):=by
 induction pre generalizing i with
 | nil=>simp[bz]
 | cons y b d =>
  simp only[bz,I4] at h ⊢;split at h
  ·rename_i e
   rw[eT e,d h];simp only[o3];have:i+1+b.length=i+(b.length+1):=by omega
   rw[this]
  ·omega
theorem rU {i:Nat}{pre b:List (Nat × Nat)}(d:pre <+: b)(h:bz i pre≠-1):bz i b=bz i pre:=by
 induction pre generalizing i b with
 | nil=>exact absurd rfl h
 | cons y ys f =>
  obtain⟨t,rfl⟩:=d;simp only[bz,I4] at h ⊢;split
  ·rename_i e
   rw[eT e] at h;exact f (NI _ _) h
  ·rfl
theorem tT {f:Nat->aj}{pre:List (Nat × Nat)}{x:Nat × Nat}(h:aR f pre=-1):aR f (pre++[x])=if (f x.1).kind=3/\60<=x.2 then (x.1:Int) else -1:=by
 induction pre with
 | nil=>simp[aR]
 | cons y ys b =>
  simp only[aR,I4] at h ⊢;split at h
  ·omega
  ·rename_i e
   rw[a8 e,b h]
theorem qL {f:Nat->aj}{pre b:List (Nat × Nat)}(d:pre <+: b)(h:aR f pre≠-1):aR f b=aR f pre:=by
 induction pre generalizing b with
 | nil=>exact absurd rfl h
 | cons y ys g =>
  obtain⟨t,rfl⟩:=d;simp only[aR,I4] at h ⊢;split
  ·rfl
  ·rename_i e
   rw[a8 e] at h;exact g (NI _ _) h
structure EJ (W:E)(h:Nat)(v:QB):Prop where
 size:W.heap.size=h+4
 r:W.cell? (J (h+1) 0 Z)=Q (N I 0)/\W.frozen? (J (h+1) 0 Z)=D
 t:W.cell? (J (h+1+1) 0 Z)=Q (N I 0)/\W.frozen? (J (h+1+1) 0 Z)=D
 a:W.cell? (J (h+1+1+1) 0 Z)=Q v
 a0:W.cell? (J h 0 Z)=Q v
theorem wA (w:E)(v:QB)(t u:QF):EJ ((((w.alloc (T #[v] t)).alloc (T #[N I 0] u)).alloc (T #[N I 0] u)).alloc (T #[v] t)) w.heap.size v:=by
 have b:(w.alloc (T #[v] t)).heap.size=w.heap.size+1:=by simp
 have d:((w.alloc (T #[v] t)).alloc (T #[N I 0] u)).heap.size=w.heap.size+1+1:=by simp
 have f:(((w.alloc (T #[v] t)).alloc (T #[N I 0] u)).alloc (T #[N I 0] u)).heap.size=w.heap.size+1+1+1:=by simp
 have i:Below (w.heap.size+1) (w.alloc (T #[v] t)) ((((w.alloc (T #[v] t)).alloc (T #[N I 0] u)).alloc (T #[N I 0] u)).alloc (T #[v] t)):=((br.alloc (by omega) _).alloc (by omega) _).alloc (by omega) _;have g:Below (w.heap.size+1+1) ((w.alloc (T #[v] t)).alloc (T #[N I 0] u)) ((((w.alloc (T #[v] t)).alloc (T #[N I 0] u)).alloc (T #[N I 0] u)).alloc (T #[v] t)):=(br.alloc (by omega) _).alloc (by omega) _;have h:Below (w.heap.size+1+1+1) (((w.alloc (T #[v] t)).alloc (T #[N I 0] u)).alloc (T #[N I 0] u)) ((((w.alloc (T #[v] t)).alloc (T #[N I 0] u)).alloc (T #[N I 0] u)).alloc (T #[v] t)):=br.alloc (by omega) _;refine⟨by simp,⟨?_,?_⟩,⟨?_,?_⟩,?_,(i.cell (p:=(J w.heap.size 0 Z)) (lj _)).trans (by simp)⟩
 ·refine(g.cell (p:=(J (w.heap.size+1) 0 Z)) (lj _)).trans ?_
  rw[<-b];clear i g h b d f;generalize w.alloc (T #[v] t)=W;simp
 ·refine(g.frozen (p:=(J (w.heap.size+1) 0 Z)) (lj _)).trans ?_
  rw[<-b];clear i g h b d f;generalize w.alloc (T #[v] t)=W;simp
 ·refine(h.cell (p:=(J (w.heap.size+1+1) 0 Z)) (lj _)).trans ?_
  rw[<-d];clear i g h b d f;generalize (w.alloc (T #[v] t)).alloc (T #[N I 0] u)=W;simp
 ·refine(h.frozen (p:=(J (w.heap.size+1+1) 0 Z)) (lj _)).trans ?_
  rw[<-d];clear i g h b d f;generalize (w.alloc (T #[v] t)).alloc (T #[N I 0] u)=W;simp
 ·rw[<-f]
  clear i g h b d f;generalize ((w.alloc (T #[v] t)).alloc (T #[N I 0] u)).alloc (T #[N I 0] u)=W;simp
theorem qM (b off n d:Nat)(f:Nat->aj)(w:E)(V:fK f n)(hn1:1<=n)(hn:(n:Int)<=400)(H:RowDeed w b off n f)(hlk:∀ p,p<n->(f p).linksN<=200)(hlen:(aB f n).length<=400):Calls Tryz.prog 98 #[QE #[Y (Q (J b off Z)) n d]] w fun e X=>e=QD (N I (bz 0 (aB f n)))/\Below w.heap.size w X:=by
 refine(callsIn_wide (n:=3)).1 ?_;have HF:=ae H;have HA:=ae V;have QJ:=ae hlk;clear H V hlk;have QM:=((((Qs w).alloc lr (T #[Y (Q (J b off Z)) n d] 50)).alloc (by simp) (T #[N I 0] 3)).alloc (by simp;omega) (T #[N I 0] 3)).alloc (by simp;omega) (T #[Y (Q (J b off Z)) n d] 50);have QL:=ae QM;clear QM;have G:=ae (wA w (Y (Q (J b off Z)) n d) 50 3);refine callsIn_of_wp_marks Tryz.func98 rfl trivial ?_ rfl;simp only[Tryz.ntmps98,JK,o3,ES,Nat.reduceAdd,Nat.reduceSub,JU,JV,KP,J1,IM,I4];gi_wp2_with (refine⟨trivial,?_⟩;gi_at_call 169;refine(oh _ _ _).mono ?_;rintro e X ⟨rfl,rfl⟩);generalize (((w.alloc (T #[Y (Q (J b off Z)) n d] 50)).alloc (T #[N I 0] 3)).alloc (T #[N I 0] 3)).alloc (T #[Y (Q (J b off Z)) n d] 50)=W at QL G ⊢;have hsz:=G.size;obtain⟨O,L⟩:=G.r;obtain⟨M,QO⟩:=G.t
 refine iR (F:=Fence.wide) rfl (by omega) (gf:=220) (lb:=#[.pointer (Q (J (w.heap.size+1+1+1) 0 Z))]) rfl trivial (enters_of Tryz.func220 (by kernel_rfl) rfl) (base:=w.heap.size) (by omega)
  (mK w b off n d (w.heap.size+1+1+1) (3 - 1) f W HA hn1 hn HF QJ QL G.a (by omega)) br (fun _=>rfl)
  (fun pre j=>j.cell? (J (w.heap.size+1+1) 0 Z)=Q (N I (pre.length:Int))/\j.frozen? (J (w.heap.size+1+1) 0 Z)=D/\j.cell? (J (w.heap.size+1) 0 Z)=Q (N I 0)/\j.frozen? (J (w.heap.size+1) 0 Z)=D/\Hid (bz 0 pre=-1)/\Hid (Below w.heap.size w j))
  (fun c pre j=>c=.ret/\j.cell? (J (w.heap.size+1) 0 Z)=Q (N I (bz 0 pre))/\Hid (bz 0 pre≠-1)/\Hid (Below w.heap.size w j))
  (fun s A B h i=>⟨(i.cell (p:=(J (w.heap.size+1+1) 0 Z)) (by show w.heap.size+1+1<W.heap.size;omega)).trans h.1,(i.frozen (p:=(J (w.heap.size+1+1) 0 Z)) (by show w.heap.size+1+1<W.heap.size;omega)).trans h.2.1,(i.cell (p:=(J (w.heap.size+1) 0 Z)) (by show w.heap.size+1<W.heap.size;omega)).trans h.2.2.1,(i.frozen (p:=(J (w.heap.size+1) 0 Z)) (by show w.heap.size+1<W.heap.size;omega)).trans h.2.2.2.1,h.2.2.2.2.1,h.2.2.2.2.2.trans (i.mono (by omega))⟩)
  (fun c s A B h i=>⟨h.1,(i.cell (p:=(J (w.heap.size+1) 0 Z)) (by show w.heap.size+1<W.heap.size;omega)).trans h.2.1,h.2.2.1,h.2.2.2.trans (i.mono (by omega))⟩)
  ⟨M,QO,O,L,rfl,QL⟩
  (fun x=>{ tmps:=#[QE #[Y (Q (J b off Z)) n d],.pointer (Q (J w.heap.size 0 Z)),.pointer (Q (J (w.heap.size+1) 0 Z)),.pointer (Q (J (w.heap.size+1+1) 0 Z)),N I (x.1:Int),QE #[Y (Q (J b off Z)) n d],.func (.func 220) #[] #[.pointer (Q (J (w.heap.size+1+1+1) 0 Z))],N I (x.1:Int),N I (x.2:Int),undef,undef,undef,undef,undef,undef],defers:=[] }) ?assign ?body ?done ?stop
 case assign =>intro l x W K o;gi_wp2;exact o
 case body =>
  rintro l pre x g _ ⟨hc,H,q,QN,y,u⟩ hlt hz;clear O L M QO;have hpl:(pre.length:Int)<=1048576:=by omega
  by_cases hx:(x.1:Int)=(pre.length:Int)
  ·have z:bz 0 (pre++[x])=-1:=by rw[ol y.out,eT (by omega)]
   have m:=ae z;clear z;have S:=ae (Upd.setCell (P:=fun k=>w.heap.size<=k/\k<W.heap.size) g (p:=(J (w.heap.size+1+1) 0 Z)) ⟨by show _<=_+1+1;omega,by show _+1+1<_;omega⟩ (N I ((pre.length:Int)+1)));have QQ:=ae (u.setCell (p:=(J (w.heap.size+1+1) 0 Z)) (by show _<=_+1+1;omega) (N I ((pre.length:Int)+1)));have c1:(g.setCell (J (w.heap.size+1+1) 0 Z) (N I ((pre.length:Int)+1))).cell? (J (w.heap.size+1+1) 0 Z)=Q (N I ((pre++[x]).length:Int)):=by rw[AI _ _ _ (by rw[hc];rfl)];simp
   have c2:(g.setCell (J (w.heap.size+1+1) 0 Z) (N I ((pre.length:Int)+1))).cell? (J (w.heap.size+1) 0 Z)=Q (N I 0):=by rw[sq _ _ _ _ (by simp)];exact q
   have C:=ae c1;have C2:=ae c2;clear c1 c2;gi_wp2;exact⟨S,C,by simpa using H,C2,by simpa using QN,m,QQ⟩
  ·have z:bz 0 (pre++[x])=(pre.length:Int):=by rw[ol y.out,a8 (by omega)];simp
   have m:=ae z;clear z;have S:=ae (Upd.setCell (P:=fun k=>w.heap.size<=k/\k<W.heap.size) g (p:=(J (w.heap.size+1) 0 Z)) ⟨by show _<=_+1;omega,by show _+1<_;omega⟩ (N I (pre.length:Int)));have QQ:=ae (u.setCell (p:=(J (w.heap.size+1) 0 Z)) (by show _<=_+1;omega) (N I (pre.length:Int)));have C:=ae (AI g (J (w.heap.size+1) 0 Z) (N I (pre.length:Int)) (by rw[q];rfl));gi_wp2;exact⟨S,rfl,by rw[m.out];exact C,by show _≠_;rw[m.out];omega,QQ⟩
 case done =>rintro QH ys g R rfl ⟨_,_,q,QN,y,u⟩ o;have QG:=ae ((KeepsOthers.setCell g (J (w.heap.size+1) 0 Z) (N I (-1))).same QH _ o rfl);have QQ:=ae (u.setCell (p:=(J (w.heap.size+1) 0 Z)) (by show _<=_+1;omega) (N I (-1)));have C:=ae (AI g (J (w.heap.size+1) 0 Z) (N I (-1)) (by rw[q];rfl));gi_wp2;refine⟨by simp,.inl ⟨_,_,rfl,run_takeDeferred QG,?_⟩⟩;have QP:=dy (n:=W.heap.size) (g.setCell (J (w.heap.size+1) 0 Z) (N I (-1))) R (x4.1 QG).1 (.deferred Z);have c:=(QP.cell (p:=(J (w.heap.size+1) 0 Z)) (by show w.heap.size+1<W.heap.size;omega)).trans C;exact⟨N I (-1),by simp[results,Tryz.results98,go_sem,c],by rw[y.out],QQ.trans (QP.mono (by omega))⟩
 case stop =>rintro QH c pre g R QK ⟨rfl,q,y,u⟩ o;gi_wp2;refine⟨by simp,.inl ⟨_,_,rfl,run_takeDeferred o,?_⟩⟩;have QP:=dy (n:=W.heap.size) g R (x4.1 o).1 (.deferred Z);have c:=(QP.cell (p:=(J (w.heap.size+1) 0 Z)) (by show w.heap.size+1<W.heap.size;omega)).trans q;exact⟨N I (bz 0 pre),by simp[results,Tryz.results98,go_sem,c],by rw[rU QK y.out],u.trans (QP.mono (by omega))⟩
structure EK (W:E)(h:Nat)(v:QB):Prop where
 size:W.heap.size=h+3
 r:W.cell? (J (h+1) 0 Z)=Q (N I 0)/\W.frozen? (J (h+1) 0 Z)=D
 a:W.cell? (J (h+1+1) 0 Z)=Q v
 a0:W.cell? (J h 0 Z)=Q v
theorem wB (w:E)(v:QB)(t u:QF):EK (((w.alloc (T #[v] t)).alloc (T #[N I 0] u)).alloc (T #[v] t)) w.heap.size v:=by
 have b:(w.alloc (T #[v] t)).heap.size=w.heap.size+1:=by simp
 have d:((w.alloc (T #[v] t)).alloc (T #[N I 0] u)).heap.size=w.heap.size+1+1:=by simp
 have g:Below (w.heap.size+1) (w.alloc (T #[v] t)) (((w.alloc (T #[v] t)).alloc (T #[N I 0] u)).alloc (T #[v] t)):=(br.alloc (by omega) _).alloc (by omega) _;have f:Below (w.heap.size+1+1) ((w.alloc (T #[v] t)).alloc (T #[N I 0] u)) (((w.alloc (T #[v] t)).alloc (T #[N I 0] u)).alloc (T #[v] t)):=br.alloc (by omega) _;refine⟨by simp,⟨?_,?_⟩,?_,(g.cell (p:=(J w.heap.size 0 Z)) (lj _)).trans (by simp)⟩
 ·refine(f.cell (p:=(J (w.heap.size+1) 0 Z)) (lj _)).trans ?_
  rw[<-b];clear g f b d;generalize w.alloc (T #[v] t)=W;simp
 ·refine(f.frozen (p:=(J (w.heap.size+1) 0 Z)) (lj _)).trans ?_
  rw[<-b];clear g f b d;generalize w.alloc (T #[v] t)=W;simp
 ·rw[<-d]
  clear g f b d;generalize (w.alloc (T #[v] t)).alloc (T #[N I 0] u)=W;simp
theorem tU (b off n d:Nat)(f:Nat->aj)(w:E)(QK:fK f n)(hn1:1<=n)(hn:(n:Int)<=400)(R:RowDeed w b off n f)(hlk:∀ p,p<n->(f p).linksN<=200):Calls Tryz.prog 99 #[QE #[Y (Q (J b off Z)) n d]] w fun e X=>e=QD (N I (aR f (aB f n)))/\Below w.heap.size w X:=by
 refine(callsIn_wide (n:=3)).1 ?_;have QJ:=ae R;have HA:=ae QK;have O:=ae hlk;clear R QK hlk;have QP:=(((Qs w).alloc lr (T #[Y (Q (J b off Z)) n d] 50)).alloc (by simp) (T #[N I 0] 3)).alloc (by simp;omega) (T #[Y (Q (J b off Z)) n d] 50);have QN:=ae QP;clear QP;have z:=ae (wB w (Y (Q (J b off Z)) n d) 50 3);refine callsIn_of_wp_marks Tryz.func99 rfl trivial ?_ rfl;simp only[Tryz.ntmps99,JK,o3,ES,Nat.reduceAdd,Nat.reduceSub,JU,JV,KP,J1,IM,I4];gi_wp2_with (refine⟨trivial,?_⟩;gi_at_call 169;refine(oh _ _ _).mono ?_;rintro e X ⟨rfl,rfl⟩);generalize ((w.alloc (T #[Y (Q (J b off Z)) n d] 50)).alloc (T #[N I 0] 3)).alloc (T #[Y (Q (J b off Z)) n d] 50)=W at QN z ⊢;have hsz:=z.size;obtain⟨G,QQ⟩:=z.r;have V:=z.a0
 refine iR (F:=Fence.wide) rfl (by omega) (gf:=220) (lb:=#[.pointer (Q (J (w.heap.size+1+1) 0 Z))]) rfl trivial (enters_of Tryz.func220 (by kernel_rfl) rfl) (base:=w.heap.size) (by omega)
  (mK w b off n d (w.heap.size+1+1) (3 - 1) f W HA hn1 hn QJ O QN z.a (by omega)) br (fun _=>rfl)
  (fun pre o=>o.cell? (J w.heap.size 0 Z)=Q (Y (Q (J b off Z)) n d)/\o.cell? (J (w.heap.size+1) 0 Z)=Q (N I 0)/\o.frozen? (J (w.heap.size+1) 0 Z)=D/\Hid (aR f pre=-1)/\Hid (Below w.heap.size w o))
  (fun c pre o=>c=.ret/\o.cell? (J (w.heap.size+1) 0 Z)=Q (N I (aR f pre))/\Hid (aR f pre≠-1)/\Hid (Below w.heap.size w o))
  (fun s A B h m=>⟨(m.cell (p:=(J w.heap.size 0 Z)) (by show w.heap.size<W.heap.size;omega)).trans h.1,(m.cell (p:=(J (w.heap.size+1) 0 Z)) (by show w.heap.size+1<W.heap.size;omega)).trans h.2.1,(m.frozen (p:=(J (w.heap.size+1) 0 Z)) (by show w.heap.size+1<W.heap.size;omega)).trans h.2.2.1,h.2.2.2.1,h.2.2.2.2.trans (m.mono (by omega))⟩)
  (fun c s A B h m=>⟨h.1,(m.cell (p:=(J (w.heap.size+1) 0 Z)) (by show w.heap.size+1<W.heap.size;omega)).trans h.2.1,h.2.2.1,h.2.2.2.trans (m.mono (by omega))⟩)
  ⟨V,G,QQ,rfl,QN⟩
  (fun x=>{ tmps:=#[QE #[Y (Q (J b off Z)) n d],.pointer (Q (J w.heap.size 0 Z)),.pointer (Q (J (w.heap.size+1) 0 Z)),N I (x.1:Int),N I (x.2:Int),QE #[Y (Q (J b off Z)) n d],.func (.func 220) #[] #[.pointer (Q (J (w.heap.size+1+1) 0 Z))],N I (x.1:Int),N I (x.2:Int),undef,undef,undef,undef,undef,undef,undef,undef,undef,undef,undef,undef],defers:=[] }) ?assign ?body ?done ?stop
 case assign =>intro l x W K t;gi_wp2;exact t
 case body =>
  rintro l pre x i QL ⟨S,q,u,C,j⟩ hlt hz;clear G QQ V;obtain⟨_,p1,_⟩:=(QJ.below j lr).2 x.1 QL;have hx0:(0:Int)<=(x.1:Int):=by omega
  have hxn:(x.1:Int)<n:=by omega
  have H:=ae (tT (x:=x) C);have U1:=ae (Upd.setCell (P:=fun k=>w.heap.size<=k/\k<W.heap.size) i (p:=(J (w.heap.size+1) 0 Z)) ⟨by show _<=_+1;omega,by show _+1<_;omega⟩ (N I (x.1:Int)));have QM:=ae (j.setCell (p:=(J (w.heap.size+1) 0 Z)) (by show _<=_+1;omega) (N I (x.1:Int)));have QO:=ae (AI i (J (w.heap.size+1) 0 Z) (N I (x.1:Int)) (by rw[q];rfl));cases h3:((f x.1).kind == 3) with
  | false =>
   have g:Hid (aR f (pre++[x])=-1):=by show _=_;rw[H.out,a8 (by intro h;rw[h.1] at h3;simp at h3)]
   gi_wp2;exact⟨Upd.refl _ _,S,q,u,g,j⟩
  | true =>
   by_cases h6:(60:Int)<=(x.2:Int)
   ·have g:Hid (aR f (pre++[x])=(x.1:Int)):=by show _=_;rw[H.out,eT ⟨by simpa using h3,by omega⟩]
    gi_wp2;exact⟨U1,rfl,by rw[g.out];exact QO,by show _≠_;rw[g.out];omega,QM⟩
   ·have g:Hid (aR f (pre++[x])=-1):=by show _=_;rw[H.out,a8 (by intro h;omega)]
    gi_wp2;exact⟨Upd.refl _ _,S,q,u,g,j⟩
 case done =>rintro QH ys i L rfl ⟨_,q,u,C,j⟩ t;have QG:=ae ((KeepsOthers.setCell i (J (w.heap.size+1) 0 Z) (N I (-1))).same QH _ t rfl);have QM:=ae (j.setCell (p:=(J (w.heap.size+1) 0 Z)) (by show _<=_+1;omega) (N I (-1)));have QO:=ae (AI i (J (w.heap.size+1) 0 Z) (N I (-1)) (by rw[q];rfl));gi_wp2;refine⟨by simp,.inl ⟨_,_,rfl,run_takeDeferred QG,?_⟩⟩;have y:=dy (n:=W.heap.size) (i.setCell (J (w.heap.size+1) 0 Z) (N I (-1))) L (x4.1 QG).1 (.deferred Z);have c:=(y.cell (p:=(J (w.heap.size+1) 0 Z)) (by show w.heap.size+1<W.heap.size;omega)).trans QO;exact⟨N I (-1),by simp[results,Tryz.results99,go_sem,c],by rw[C.out],QM.trans (y.mono (by omega))⟩
 case stop =>rintro QH c pre i L M ⟨rfl,q,C,j⟩ t;gi_wp2;refine⟨by simp,.inl ⟨_,_,rfl,run_takeDeferred t,?_⟩⟩;have y:=dy (n:=W.heap.size) i L (x4.1 t).1 (.deferred Z);have c:=(y.cell (p:=(J (w.heap.size+1) 0 Z)) (by show w.heap.size+1<W.heap.size;omega)).trans q;exact⟨N I (aR f pre),by simp[results,Tryz.results99,go_sem,c],by rw[qL M C.out],j.trans (y.mono (by omega))⟩
end Go.Proofs.YtkdimgejdocbbaaGreatDoor.Vp
namespace Go.Proofs.YtkdimgejdocbbaaGreatDoor.Vp
open RowKit
theorem oo (g:Nat->Bool)(n:Nat):aJ g n=-1∨0<=aJ g n:=by
 induction n with
 | zero=>exact .inl rfl
 | succ k b =>
  rw[aJ];split
  ·split
   ·exact .inl rfl
   ·exact .inr (by omega)
  ·exact b
theorem zW (i:Nat)(b:List (Nat × Nat)):bz i b=-1∨0<=bz i b:=by
 induction b generalizing i with
 | nil=>exact .inl rfl
 | cons x b d =>
  rw[bz];split
  ·exact d _
  ·exact .inr (by omega)
theorem pQ (f:Nat->aj)(b:List (Nat × Nat)):aR f b=-1∨0<=aR f b:=by
 induction b with
 | nil=>exact .inl rfl
 | cons x b d =>
  rw[aR];split
  ·exact .inr (by omega)
  ·exact d
theorem nh {f:Nat->aj}{n:Nat}(h:aJ (bc f) n=-1):∀ p,p<n->(f p).linksN<=200:=by
 intro p b;have h1:=dW h p b;simp only[bc,gM,kindOk] at h1;obtain⟨_,h2⟩:=h1;split at h2
 ·simp[aO] at h2
  omega
 ·split at h2
  ·simp[aO] at h2
   omega
  ·split at h2
   ·simp only[ce,gM,j4] at h2
    omega
   ·cases h2
theorem zX {f:Nat->aj}{n:Nat}(h:aJ (bc f) n=-1):∀ p,p<n->(f p).name.size<=maxLen:=by intro p b;have h1:=dW h p b;simp only[bc,au,gM,j4] at h1;unfold maxLen;omega
theorem jD {f:Nat->aj}{n:Nat}(d:fK f n)(hn:1<=n):(aB f n).length<=n:=by
 have h:=(uB d n (n - 1) 0 (fun _=>D) (by omega) (by omega) rfl).num;have h2:=Eb (lst f n (n - 1) 0 (fun _=>D)).1 n;have b:∀ k,cnt (fun _=>D) k=0:=by
  intro k;induction k with
  | zero=>rfl
  | succ j g=>rw[cnt,g];rfl
 rw[b] at h;unfold aB;omega
structure EL (w:E)(b:Nat)(v0 v1 v2 v3:QB):Prop where
 lt:b<w.heap.size
 c0:w.cell? (J b 0 Z)=Q v0
 c1:w.cell? (J b 1 Z)=Q v1
 c2:w.cell? (J b 2 Z)=Q v2
 c3:w.cell? (J b 3 Z)=Q v3
theorem CE (w:E)(d g f b:QB)(t:QF):EL (w.alloc (T #[d,g,f,b] t)) w.heap.size d g f b:=⟨by simp,by simp,by simp,by simp,by simp⟩
theorem tV (a:Option Addr)(n l:Nat)(f:Nat->aj)(w:E)(hn:(n:Int)<=1048576)(hv:SlDeed w a n f)(P:(n:Int)<=l)(QN:∀ i,i<n->cY (f i))(hT:Tab w):Calls Tryz.prog 24 #[QE #[Y a n l]] w fun e w'=>e=QD (.tuple #[N I (dr f n).1,N I (dr f n).2])/\Below w.heap.size w w':=by
 have HV:=ae hv;have HM:=ae QN;have V:=ae hT;clear hv QN hT;have M:=ae ((Qs w).alloc lr (T #[Y a n l] 50));have QH:(w.alloc (T #[Y a n l] 50)).cell? (J w.heap.size 0 Z)=Q (Y a n l):=by simp
 obtain⟨c1,c2,A⟩:∃ c1 c2,dr f n=(c1,c2):=⟨_,_,rfl⟩
 rw[A];have H:=ae A;clear A;by_cases QG:(n:Int)=0
 ·have g:c1=1/\c2=0:=by have:=H.out;unfold dr at this;rw[eT (.inl (by omega))] at this;simp only[CV] at this;omega
  clear H;obtain⟨g,x⟩:=g;subst g x;obtain rfl:n=0:=by omega
  go_enter Tryz.func24,Tryz.ntmps24;go_wp2;go_ret2;exact⟨rfl,M⟩
 by_cases h4:(400:Int)<(n:Int)
 ·have g:c1=1/\c2=0:=by have:=H.out;unfold dr at this;rw[eT (.inr (by omega))] at this;simp only[CV] at this;omega
  clear H;obtain⟨g,x⟩:=g;subst g x;have aq:((n:Int) == 0)=D:=by simpa using QG
  go_enter Tryz.func24,Tryz.ntmps24;go_wp2;go_ret2;exact⟨rfl,M⟩
 have m:Hid ((if aJ (bc f) n≠-1 then ((2:Int),aJ (bc f) n) else if aJ (fun p=>aQ f p p) n≠-1 then (3,aJ (fun p=>aQ f p p) n) else if bz 0 (aB f n)≠-1 then (4,bz 0 (aB f n)) else if aR f (aB f n)≠-1 then (5,aR f (aB f n)) else (0,0))=(c1,c2)):=by have:=H.out;unfold dr at this;rw[a8 (by omega)] at this;exact this
 clear H;obtain⟨b,off,rfl,QO⟩:=HV.resolve_left (by omega);have QM:=ae QO;have aq:((n:Int) == 0)=D:=by simpa using QG
 clear HV QO;have QP:(n:Int)<=400:=by omega
 have S:=ae (M.alloc (by simp) (T #[.func (.func 96) #[] #[],.func (.func 97) #[] #[],.func (.func 98) #[] #[],.func (.func 99) #[] #[]] 135));go_enter Tryz.func24,Tryz.ntmps24;go_wp2;have O:(w.alloc (T #[Y (Q (J b off Z)) n l] 50)).heap.size=w.heap.size+1:=by simp
 have B:=ae (CE (w.alloc (T #[Y (Q (J b off Z)) n l] 50)) (.func (.func 96) #[] #[]) (.func (.func 97) #[] #[]) (.func (.func 98) #[] #[]) (.func (.func 99) #[] #[]) 135);rw[O] at B;have k1:=(((eI (w.heap.size+1) (w.alloc (T #[Y (Q (J b off Z)) n l] 50))).alloc (by omega) (T #[.func (.func 96) #[] #[],.func (.func 97) #[] #[],.func (.func 98) #[] #[],.func (.func 99) #[] #[]] 135)).cell (p:=(J w.heap.size 0 Z)) (lj _)).trans QH;clear O QH M;generalize (w.alloc (T #[Y (Q (J b off Z)) n l] 50)).alloc (T #[.func (.func 96) #[] #[],.func (.func 97) #[] #[],.func (.func 98) #[] #[],.func (.func 99) #[] #[]] 135)=W at S B k1 ⊢;have G:w.heap.size+1<W.heap.size:=B.lt;go_loopw [21] (fun i wr=>∃ k:Nat,k<=4/\i=N I k/\Hid (1<=k->aJ (bc f) n=-1)/\Hid (2<=k->aJ (fun p=>aQ f p p) n=-1)/\Hid (3<=k->bz 0 (aB f n)=-1)/\Hid (4<=k->aR f (aB f n)=-1)/\Hid (Below W.heap.size W wr)) (fun i _=>4 - (intOf i).toNat);case atStart=>exact⟨0,by omega,rfl,fun h=>by omega,fun h=>by omega,fun h=>by omega,fun h=>by omega,eI _ _⟩
 case round =>
  obtain⟨k,hk,rfl,y,K,QK,H4,u⟩:=hrel;have k2:=(u.cell (p:=(J w.heap.size 0 Z)) (by show w.heap.size<_;omega)).trans k1;have t:=ae (S.trans (u.mono S.size));by_cases hlt:k<4
  ·rcases(show k=0∨k=1∨k=2∨k=3 by omega) with rfl | rfl | rfl | rfl
   ·have QJ:=(u.cell (p:=(J (w.heap.size+1) 0 Z)) G).trans B.c0
    have q:=ae (qE b off n l f _ QP (QM.below t lr) P HM (V.below t V.1));have s:=ae (oo _ _:aJ (bc f) n=-1∨0<=aJ (bc f) n);obtain⟨X,r⟩:∃ X,X=aJ (bc f) n:=⟨_,rfl⟩
    rw[<-r] at q s;have j:=ae r;clear r;go_wp2_with fail;refine q.mono ?_;rintro e QL ⟨rfl,o⟩;have QQ:=ae (t.trans (o.mono t.size));have z:=ae (u.trans (o.mono u.size));clear o q;by_cases d:X=-1
    ·have C:Hid (aJ (bc f) n=-1):=j.symm.trans d
     have R:decide (0<=X)=D:=by rw[d];rfl
     clear d;go_wp2;exact⟨⟨0+1,by omega,by go_num,fun _=>C,fun h=>by omega,fun h=>by omega,fun h=>by omega,z⟩,by simp[intOf]⟩
    ·have g:c1=2/\c2=X:=by
      have:=m.out;rw[eT (by rw[<-j.out];exact d),<-j.out] at this;simp only[CV] at this;omega
     have L:0<=X:=s.resolve_left d;obtain⟨g,x⟩:=g;clear m d s;subst g x;go_wp2;go_ret2;exact⟨rfl,QQ⟩
   ·have QJ:=(u.cell (p:=(J (w.heap.size+1) 1 Z)) G).trans B.c1
    have q:=ae (qK b off n l f _ QP (QM.below t lr) (zX (y (by omega))));have s:=ae (oo _ _:aJ (fun p=>aQ f p p) n=-1∨0<=aJ (fun p=>aQ f p p) n);obtain⟨X,r⟩:∃ X,X=aJ (fun p=>aQ f p p) n:=⟨_,rfl⟩
    rw[<-r] at q s;have j:=ae r;clear r;go_wp2_with fail;refine q.mono ?_;rintro e QL ⟨rfl,o⟩;have QQ:=ae (t.trans (o.mono t.size));have z:=ae (u.trans (o.mono u.size));clear o q;by_cases d:X=-1
    ·have C:Hid (aJ (fun p=>aQ f p p) n=-1):=j.symm.trans d
     have R:decide (0<=X)=D:=by rw[d];rfl
     clear d;go_wp2;exact⟨⟨1+1,by omega,by go_num,fun _=>y (by omega),fun _=>C,fun h=>by omega,fun h=>by omega,z⟩,by simp[intOf]⟩
    ·have g:c1=3/\c2=X:=by
      have:=m.out;rw[a8 (by rw[y.out (by omega)];simp),eT (by rw[<-j.out];exact d),<-j.out] at this;simp only[CV] at this;omega
     have L:0<=X:=s.resolve_left d;obtain⟨g,x⟩:=g;clear m d s;subst g x;go_wp2;go_ret2;exact⟨rfl,QQ⟩
   ·have QJ:=(u.cell (p:=(J (w.heap.size+1) 2 Z)) G).trans B.c2
    have q:=ae (qM b off n l f _ (iT (y (by omega))) (by omega) QP (QM.below t lr) (nh (y (by omega))) (by have:=jD (iT (y (by omega))) (n:=n) (by omega);omega));have s:=ae (zW _ _:bz 0 (aB f n)=-1∨0<=bz 0 (aB f n));obtain⟨X,r⟩:∃ X,X=bz 0 (aB f n):=⟨_,rfl⟩
    rw[<-r] at q s;have j:=ae r;clear r;go_wp2_with fail;refine q.mono ?_;rintro e QL ⟨rfl,o⟩;have QQ:=ae (t.trans (o.mono t.size));have z:=ae (u.trans (o.mono u.size));clear o q;by_cases d:X=-1
    ·have C:Hid (bz 0 (aB f n)=-1):=j.symm.trans d
     have R:decide (0<=X)=D:=by rw[d];rfl
     clear d;go_wp2;exact⟨⟨2+1,by omega,by go_num,fun _=>y (by omega),fun _=>K (by omega),fun _=>C,fun h=>by omega,z⟩,by simp[intOf]⟩
    ·have g:c1=4/\c2=X:=by
      have:=m.out;rw[a8 (by rw[y.out (by omega)];simp),a8 (by rw[K.out (by omega)];simp),eT (by rw[<-j.out];exact d),<-j.out] at this;simp only[CV] at this;omega
     have L:0<=X:=s.resolve_left d;obtain⟨g,x⟩:=g;clear m d s;subst g x;go_wp2;go_ret2;exact⟨rfl,QQ⟩
   ·have QJ:=(u.cell (p:=(J (w.heap.size+1) 3 Z)) G).trans B.c3
    have q:=ae (tU b off n l f _ (iT (y (by omega))) (by omega) QP (QM.below t lr) (nh (y (by omega))));have s:=ae (pQ _ _:aR f (aB f n)=-1∨0<=aR f (aB f n));obtain⟨X,r⟩:∃ X,X=aR f (aB f n):=⟨_,rfl⟩
    rw[<-r] at q s;have j:=ae r;clear r;go_wp2_with fail;refine q.mono ?_;rintro e QL ⟨rfl,o⟩;have QQ:=ae (t.trans (o.mono t.size));have z:=ae (u.trans (o.mono u.size));clear o q;by_cases d:X=-1
    ·have C:Hid (aR f (aB f n)=-1):=j.symm.trans d
     have R:decide (0<=X)=D:=by rw[d];rfl
     clear d;go_wp2;exact⟨⟨3+1,by omega,by go_num,fun _=>y (by omega),fun _=>K (by omega),fun _=>QK (by omega),fun _=>C,z⟩,by simp[intOf]⟩
    ·have g:c1=5/\c2=X:=by
      have:=m.out;rw[a8 (by rw[y.out (by omega)];simp),a8 (by rw[K.out (by omega)];simp),a8 (by rw[QK.out (by omega)];simp),eT (by rw[<-j.out];exact d),<-j.out] at this;simp only[CV] at this;omega
     have L:0<=X:=s.resolve_left d;obtain⟨g,x⟩:=g;clear m d s;subst g x;go_wp2;go_ret2;exact⟨rfl,QQ⟩
  ·obtain rfl:k=4:=by omega
   have g:c1=0/\c2=0:=by have:=m.out;rw[a8 (by rw[y.out (by omega)];simp),a8 (by rw[K.out (by omega)];simp),a8 (by rw[QK.out (by omega)];simp),a8 (by rw[H4.out (by omega)];simp)] at this;simp only[CV] at this;omega
   obtain⟨g,x⟩:=g;clear m;subst g x;go_wp2;go_ret2;exact⟨rfl,t⟩
end Go.Proofs.YtkdimgejdocbbaaGreatDoor.Vp
