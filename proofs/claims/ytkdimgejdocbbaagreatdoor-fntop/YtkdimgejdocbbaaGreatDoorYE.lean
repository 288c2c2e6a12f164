import Derived.Test.YtkdimgejdocbbaaGreatDoorZC
import Derived.RangeFuncNested
import Derived.RangeFuncBound
import Derived.RangeFuncCalls
import Derived.RangeFuncLeaves
import Derived.Shelf.Abstract
import Derived.Shelf.RegionOpen
import Derived.OwnWalkIn
import Derived.TacticsInMore
import Derived.LoopNIn
import Derived.LoopIn
import Derived.Sort.QuietIn
import Derived.Sort.BigQuietIn
import Derived.Sort.CutIn
import Derived.Test.YtkdimgejdocbbaaGreatDoorZE
import Derived.Maps.OwnSet
import Derived.Maps.Views
import Derived.StringKeys
set_option maxRecDepth 100000
set_option maxHeartbeats 4000000
open Go.Addr renaming mk->J
open Go.Value renaming slice->Z,string->U,int->Q,bool->QA,agg->QE
open Option renaming none->Y,some->N
open Go.Obj renaming cells->T
open Go.IntKind renaming i64->I
open Go renaming World->E,Value->QB,TypeId->QF
open Bool renaming false->D,true->QC
open Go.Ending renaming returned->QD
namespace Go.Proofs.YtkdimgejdocbbaaGreatDoor.Vp
open RowKit
theorem Cz {f:Nat->aj}{k:Nat}{QQ:DataW Unit}(b:Maps.IsMap QQ)(h:∀ p,Maps.has QQ (U (f p).name.data.toList)=!aQ f p k)(d:DataW Unit):∀ p,Maps.has (QQ.put (U (f k).name.data.toList) d) (U (f p).name.data.toList)=!aQ f p (k+1):=by
 intro p;rw[aQ,Bool.not_and,<-h p,Bool.not_not];by_cases e:(f p).name.data.toList=(f k).name.data.toList
 ·rw[e,Maps.has_put_same b (by simp[WideAt.IsKeyLit])]
  simp[IA,e]
 ·rw[Maps.has_put_other (by simpa using e)]
  have:((f k).name.toList == (f p).name.toList)=D:=by simpa[IA] using fun h=>e (by rw[h])
  rw[this];simp
theorem qK (b off n g:Nat)(f:Nat->aj)(w:E)(hn:(n:Int)<=400)(R:RowDeed w b off n f)(M:∀ i,i<n->(f i).name.size<=maxLen):Calls Tryz.prog 97 #[QE #[Z (N (J b off Y)) n g]] w fun e QG=>e=QD (Q I (aJ (fun p=>aQ f p p) n))/\Below w.heap.size w QG:=by
 have X:=ae R;have HS:=ae M;clear R M;have V:=ae (((Qs w).alloc lr (T #[Z (N (J b off Y)) n g] 50)).alloc (by simp) (.map #[] 0));have B:=ae (World.ownsMap_made (w.alloc (T #[Z (N (J b off Y)) n g] 50)) Tryz.prog 9 (plainElem (H:=Unit) Tryz.prog 3));have hz:(w.alloc (T #[Z (N (J b off Y)) n g] 50)).heap.size=w.heap.size+1:=by simp
 rw[hz] at B;clear hz;obtain⟨r,QN⟩:∃ r,r=aJ (fun p=>aQ f p p) n:=⟨_,rfl⟩
 rw[<-QN];have O:=ae QN;clear QN;have S:=@run_makeMap Tryz.prog;go_enter Tryz.func97,Tryz.ntmps97;go_wp2;clear S;generalize (w.alloc (T #[Z (N (J b off Y)) n g] 50)).alloc (.map #[] 0)=W at V B ⊢;obtain⟨o,t⟩:∃ o,o=w.heap.size+1:=⟨_,rfl⟩
 rw[<-t] at B ⊢;have L:=ae t;clear t;go_loopw [12] (fun i wr=>∃ (k:Nat) (QQ:DataW Unit),k<=n/\i=Q I k/\Hid (∀ j,j<k->aQ f j j=QC)/\Hid (wr.ownsMap Tryz.prog 9 (plainElem (H:=Unit) Tryz.prog 3) o k QQ)/\Hid (∀ p,Maps.has QQ (U (f p).name.data.toList)=!aQ f p k)/\Hid (Below w.heap.size w wr)) (fun i _=>n - (intOf i).toNat);case atStart=>exact⟨0,_,by omega,rfl,fun j QL=>absurd QL (CV _),B,fun p=>rfl,V⟩
 case round =>
  obtain⟨k,QQ,hk,rfl,K,C,QK,h⟩:=hrel;by_cases u:k<n
  ·obtain⟨p0,p1,p2,p3,⟨a0,y,p4,q4⟩,⟨a1,x,p5,q5⟩⟩:=(X.below h lr).2 k u
   clear q4 q5;have s:=JZ (P:=Tryz.prog) (k:=9) Tryz.underlying9 (HS k u);have l:=ae s;have QP:=ae (QK k);clear s;cases hnew:aQ f k k with
   | false =>
    have A:Maps.has QQ (U (f k).name.data.toList)=QC:=by rw[QP.out,hnew];rfl
    have HHS:=ae A;obtain rfl:r=k:=by rw[O.out];exact iy u hnew K
    clear hnew;have QO:=ae (h.alloc h.size (T #[U (f k).name,Q I (f k).kind,Q I (f k).code,U (f k).text,Z a0 (f k).actN y,Z a1 (f k).linksN x] 58));go_wp2_with (at_lookup;refine wpList_lookup_own_ok_int _ rfl _ _ 214 rfl 9 3 I (L8 Tryz.underlying9) Tryz.underlying214 Tryz.underlying3 (Tryz.zeroValue3 _) o k QQ rfl (C.alloc _) _ _ rfl l ?_;intro c z q;clear z q);go_ret;exact⟨rfl,QO⟩
   | true =>
    have A:Maps.has QQ (U (f k).name.data.toList)=D:=by rw[QP.out,hnew];rfl
    have QM:=ae hnew;clear hnew;have G:(Lit.int I (k:Int)).wf=QC:=by simp only[Lit.wf,IntKind.min,IntKind.max,IntKind.signed,IntKind.bits,gM,j4,if_true];omega
    have QJ:=ae G;clear G
    go_wp2_with (first
     | (at_lookup;refine wpList_lookup_own_ok_int _ rfl _ _ 214 rfl 9 3 I (L8 Tryz.underlying9) Tryz.underlying214 Tryz.underlying3 (Tryz.zeroValue3 _) o k QQ rfl (C.alloc _) _ _ rfl l ?_;intro c z q;clear z q)
     | (at_mapUpdate;refine wpList_mapUpdate_own _ rfl _ _ _ 214 rfl 9 3 (L8 Tryz.underlying9) Tryz.underlying214 _ o k QQ rfl (C.alloc _) (by unfold maxLen;omega) _ _ _ rfl rfl l _ [] (plainElem_int Tryz.underlying3 QJ) ?_;intro w1 m d;have QH:=ae m;have QO:=ae (bg (h.alloc h.size (T #[U (f k).name,Q I (f k).kind,Q I (f k).code,U (f k).text,Z a0 (f k).actN y,Z a1 (f k).linksN x] 58)) d (by have:=h.size;simp;omega) (fun j e=>by cases e;have:=L.out;omega));clear m d))
    exact⟨⟨k+1,_,by omega,by go_num,fun j QL=>by
     by_cases e:j=k
     ·subst e;exact QM
     ·exact K j (by omega),QH,Cz C.isMap QK _,QO⟩,by simp[intOf];omega⟩
  ·have e:n=k:=by omega
   subst e;obtain rfl:r=-1:=by rw[O.out];exact eh K
   go_wp2;go_ret;exact⟨rfl,h⟩
end Go.Proofs.YtkdimgejdocbbaaGreatDoor.Vp
namespace Go.Proofs.YtkdimgejdocbbaaGreatDoor.Vp
open RowKit Go.Shelf Ca
attribute [local go_sem] Oper.semAt_some
structure LSt (w0 W:E)(n1 b off n cap L M l:Nat)(s:Nat->Bool):Prop where
 c0:W.cell? (J L 0 Y)=N (Z (N (J b off Y)) n cap)
 c1:W.cell? (J L 1 Y)=N (Z (N (J M 0 Y)) n n)
 c2:W.cell? (J L 2 Y)=N (.func (.yield l) #[] #[])
 row:∀ q,q<n->W.cell? (J M q Y)=N (QA (s q))/\W.frozen? (J M q Y)=D
 low:Below w0.heap.size w0 W
 hL:n1<=L/\L<W.heap.size
 hM:n1<=M/\M<W.heap.size
 ne:L≠M
 hb:w0.heap.size<=n1
 tyM:OfTy W M 4
 tyL:OfTy W L 283
theorem LSt.blocks {f W d:E}{n1 b off n g L M l:Nat}{s:Nat->Bool}(h:LSt f W n1 b off n g L M l s)(hz:W.heap.size<=d.heap.size)(j:d.heap[L]?=W.heap[L]?)(i:d.heap[M]?=W.heap[M]?)(m:Below f.heap.size f d):LSt f d n1 b off n g L M l s:=by have c:∀ o,d.cell? (J L o Y)=W.cell? (J L o Y):=fun o=>cq (a:=(J L o Y)) j;exact⟨(c 0).trans h.c0,(c 1).trans h.c1,(c 2).trans h.c2,fun q k=>⟨(cq (a:=(J M q Y)) i).trans (h.row q k).1,(DN (a:=(J M q Y)) i).trans (h.row q k).2⟩,m,⟨h.hL.1,ll h.hL.2 hz⟩,⟨h.hM.1,ll h.hM.2 hz⟩,h.ne,h.hb,h.tyM.eq i,h.tyL.eq j⟩
theorem LSt.below {f W g:E}{n1 b off n d L M l:Nat}{s:Nat->Bool}(h:LSt f W n1 b off n d L M l s)(hb:Below W.heap.size W g):LSt f g n1 b off n d L M l s :=
 h.blocks hb.size (hb.block L h.hL.2) (hb.block M h.hM.2) (h.low.trans (hb.mono h.low.size))
theorem LSt.upd {g W i:E}{n1 b off n f L M l:Nat}{s:Nat->Bool}{QK:QF}(j:QK≠4/\QK≠283)(h:LSt g W n1 b off n f L M l s)(d:Upd2 QK g.heap.size n1 W i):LSt g i n1 b off n f L M l s :=
 h.blocks d.size (d.block L h.hL.2 (.inr ⟨h.hL.1,h.tyL.ne j.2⟩)) (d.block M h.hM.2 (.inr ⟨h.hM.1,h.tyM.ne j.1⟩)) (h.low.trans (d.below h.low.size))
theorem LSt.set {g W:E}{n1 b off n d L M l p:Nat}{s:Nat->Bool}(h:LSt g W n1 b off n d L M l s)(hp:p<n):LSt g (W.setCell (J M p Y) (QA QC)) n1 b off n d L M l (put s p):=by
 have c:∀ o,(W.setCell (J M p Y) (QA QC)).cell? (J L o Y)=W.cell? (J L o Y):=fun o=>sq _ _ _ _ (by simp;exact fun e=>absurd e.symm h.ne);refine⟨(c 0).trans h.c0,(c 1).trans h.c1,(c 2).trans h.c2,fun q f=>⟨?_,by simpa using(h.row q f).2⟩,h.low.setCell (by have:=h.hM.1;have:=h.hb;show _<=M;omega) _,by simpa using h.hL,by simpa using h.hM,h.ne,h.hb,h.tyM.set _ _,h.tyL.set _ _⟩;by_cases e:q=p
 ·subst e
  rw[AI _ _ _ (by rw[(h.row q f).1];rfl)];simp[put]
 ·rw[sq _ _ _ _ (by simp),(h.row q f).1]
  simp[put,e]
theorem oe {go:Nat->Nat->(Nat->Bool)->(Nat->Bool) × List (Nat × Nat)}{x:aj}{d:Nat}{s:Nat->Bool}{i m:Nat}(h:i<=m):(lks go x d s i).2 <+: (lks go x d s m).2:=by
 induction m with
 | zero =>
  obtain rfl:i=0:=by omega
  exact M9
 | succ k b =>
  by_cases e:i=k+1
  ·subst e;exact M9
  ·refine(b (by omega)).trans ?_
   rw[lks];split
   ·exact NM _ _
   ·exact M9
theorem CB {QK:QF}(hT:QK≠4/\QK≠283)(QM:E)(n1 b off n QL L M l:Nat)(H:List (Nat × Nat))(f:Nat->aj)(QN Jx:List (Nat × Nat)->E->Prop)(hA:fK f n)(hn:(n:Int)<=400)(hf:RowDeed QM b off n f)(hlk:∀ p,p<n->(f p).linksN<=200)
  (hJ:∀ s A C,QN s A->Itr 4 n1 A C->QN s C) (mv:∀ s A C,Jx s A->Itr 4 n1 A C->Jx s C)
  (hY:∀ m pre (x:Nat × Nat) W,x.1<n->QN pre W->pre++[x] <+: H->n1<=W.heap.size->YieldAt Fence.wide m Tryz.prog l #[Q I (x.1:Int),Q I (x.2:Int)] W fun e u =>
   (e=QD (QA QC)/\QN (pre++[x]) u/\Upd2 QK QM.heap.size n1 W u)∨(e=QD (QA D)/\Jx (pre++[x]) u)) :
  ∀ (k p d:Nat) (s:Nat->Bool) (pre:List (Nat × Nat)) (W:E) (O:Nat),p<k->p<n->d+p<=1000->LSt QM W n1 b off n QL L M l s->s p=D->QN pre W->pre++(lst f k p d s).2 <+: H ->
   CallsIn Fence.wide O Tryz.prog 221 #[.pointer (N (J L 0 Y)),Q I (p:Int),Q I (d:Int)] W fun e u =>(e=QD (QA QC)/\QN (pre++(lst f k p d s).2) u/\LSt QM u n1 b off n QL L M l (lst f k p d s).1)∨(e=QD (QA D)/\∃ q,q <+: (lst f k p d s).2/\Jx (pre++q) u):=by
 intro k;induction k with
 | zero=>intro p d s pre W O h;omega
 | succ k ih =>
  intro p d s pre W O hpk G hdp hS hs ph hN;have HS:=ae hS;have Fd:=ae ph;have HN:=ae hN;have DA:=ae ih;have HY:=ae hY;have HJ:=ae hJ;have HJx:=ae mv;have HA:=ae hA;have HF:=ae hf;obtain⟨_,_,_,_,_,⟨a1,cap1,ro,q5⟩⟩:=hf.2 p G;have p5:=(hS.low.cell (p:=(J b (off+p*6+5) Y)) hf.1).trans ro;obtain⟨m,QG⟩:∃ m,m=(f p).linksN:=⟨_,rfl⟩
  have hm2:m<=200:=by rw[QG];exact hlk p G
  rw[<-QG] at p5 q5;have HL:=ae q5;have HM:=ae QG;have e0:=hS.c0;obtain⟨K,hK⟩:∃ K,K=lks (lst f k) (f p) d s:=⟨_,rfl⟩
  have QO:Hid (lst f (k+1) p d s=(put (K m).1 p,(K m).2++[(p,d)])):=by rw[hK,QG];rfl
  have n9:Hid (K 0=(s,[])):=by rw[hK];rfl
  have DE:Hid (∀ j,K (j+1)=if ((f p).links j).ask=QC/\(K j).1 ((f p).links j).at_.toNat=D then ((lst f k ((f p).links j).at_.toNat (d+1) (K j).1).1,(K j).2++(lst f k ((f p).links j).at_.toNat (d+1) (K j).1).2) else K j):=fun j=>by rw[hK];rfl
  have ur:Hid (∀ i,i<=m->(K i).2 <+: (K m).2):=fun i hi=>by rw[hK];exact oe hi
  clear hS ph hN ih hY hJ mv hA hf q5 QG hlk ro hK;refine callsIn_of_wp Tryz.func221 rfl trivial ?_ rfl;simp only[Tryz.ntmps221,JL,p7,E4,Nat.reduceAdd,Nat.reduceSub,JV,JW,KU,J5,IN,I5];gi_wp2;clear e0 p5;gi_loopw [18] (fun i wr=>∃ j:Nat,j<=m/\i=Q I j/\Hid (LSt QM wr n1 b off n QL L M l (K j).1)/\Hid (QN (pre++(K j).2) wr)) (fun i _=>m - (intOf i).toNat);case atStart=>exact⟨0,by omega,rfl,by rw[n9.out];exact HS,by rw[n9.out,NA];exact Fd⟩
  case round =>
   obtain⟨j,hj,rfl,g,n8⟩:=hrel;by_cases Bk:j<m
   ·obtain⟨lb,lo,rfl,bt⟩:=(HL.below g.low lr).resolve_left (by omega)
    obtain⟨d0,d1,d2,d3⟩:=bt.2 j Bk;clear bt;have aq:=DE.out j;have QH:=HA.out p G j (by have:=HM.out;omega);generalize (f p).links j=x at d0 d1 d2 d3 aq QH;have ex:=ae aq;clear aq;have QP:=ae (g.below (br.alloc lr (T #[U x.name,QA x.ask,QA x.has,Q I x.at_] 64)));have J1:=ae (HJ _ _ _ n8 (Itr.of_below ((Qs wr).alloc lr (T #[U x.name,QA x.ask,QA x.has,Q I x.at_] 64)) lr (by have:=g.hL;omega)));have e1:(wr.alloc (T #[U x.name,QA x.ask,QA x.has,Q I x.at_] 64)).cell? (J wr.heap.size 1 Y)=N (QA x.ask):=by simp
    have e3:(wr.alloc (T #[U x.name,QA x.ask,QA x.has,Q I x.at_] 64)).cell? (J wr.heap.size 3 Y)=N (Q I x.at_):=by simp
    have n6:=ae QH;clear QH;gi_upto_region 4 with fail;clear d0 d1 d2 d3;generalize wr.alloc (T #[U x.name,QA x.ask,QA x.has,Q I x.at_] 64)=B at QP J1 e1 e3 ⊢;generalize wr.heap.size=X at e1 e3 ⊢;cases hask:x.ask with
    | false =>
     have o:K (j+1)=K j:=by rw[ex.out,a8 (by rw[hask];simp)]
     have t:=ae o;clear o;rw[hask] at e1;have DQ:∀ f,Fence.wide.fn f=True:=fun _=>rfl;gi_quiet (fail);have R:=ae (QP.below (xT (Qs B) nq));have J2:=ae (HJ _ _ _ J1 (Itr.of_below (xT (Qs B) nq) lr (by have:=QP.hL;omega)));gi_wp2;exact⟨⟨j+1,by omega,by go_num,by rw[t.out];exact R,by rw[t.out];exact J2⟩,by simp[intOf];omega⟩
    | true =>
     obtain⟨q,V⟩:∃ q:Nat,x.at_=(q:Int):=⟨x.at_.toNat,by have:=(n6 hask).2;omega⟩
     have hqp:q<p:=by have:=(n6 hask).1;rw[V] at this;simpa using this
     rw[V] at e3;rw[hask] at e1;have f1:=QP.c1;obtain⟨f2,_⟩:=QP.row q (by omega);have hq0:(0:Int)<=q:=by omega
     have hqn:(q:Int)<n:=by omega
     have DQ:∀ f,Fence.wide.fn f=True:=fun _=>rfl;cases hl:(K j).1 q with
     | true =>
      have o:K (j+1)=K j:=by rw[ex.out,a8 (by rw[V];simp[hl])]
      have t:=ae o;clear o;rw[hl] at f2;gi_quiet (fail);have R:=ae (QP.below (xT (Qs B) nq));have J2:=ae (HJ _ _ _ J1 (Itr.of_below (xT (Qs B) nq) lr (by have:=QP.hL;omega)));gi_wp2;exact⟨⟨j+1,by omega,by go_num,by rw[t.out];exact R,by rw[t.out];exact J2⟩,by simp[intOf];omega⟩
     | false =>
      have o:K (j+1)=((lst f k q (d+1) (K j).1).1,(K j).2++(lst f k q (d+1) (K j).1).2):=by rw[ex.out,eT ⟨hask,by rw[V];simpa using hl⟩,V];simp
      have t:=ae o;have QJ:=ur.out (j+1) (by omega);rw[o] at QJ;have ld:=ae QJ;have fd:((d+1:Nat):Int)=(d:Int)+1:=by omega
      have HC:Hid (∀ W2 O,LSt QM W2 n1 b off n QL L M l (K j).1->QN (pre++(K j).2) W2->CallsIn Fence.wide O Tryz.prog 221 #[.pointer (N (J L 0 Y)),Q I (q:Int),Q I ((d:Int)+1)] W2 fun e u =>
        ∃ r:Bool,e=QD (QA r)/\Hid ((r=QC/\QN (pre++(K (j+1)).2) u/\LSt QM u n1 b off n QL L M l (K (j+1)).1)∨(r=D/\∃ q,q <+: (K m).2++[(p,d)]/\Jx (pre++q) u))):=by
       intro W2 O h1 h2;have P:(pre++(K j).2)++(lst f k q (d+1) (K j).1).2 <+: H:=by have QQ:=HN.out;rw[QO.out] at QQ;obtain⟨z,hz⟩:=QQ;obtain⟨y,S⟩:=ld.out;exact⟨y++[(p,d)]++z,by rw[<-hz];simp only[];rw[<-S];simp⟩
       have h:=DA.out q (d+1) (K j).1 (pre++(K j).2) W2 O (by omega) (by omega) (by omega) h1 hl h2 P;rw[fd] at h;refine h.mono fun e u h=>?_;rcases h with ⟨he,hj,hs⟩ | ⟨he,q',th,hx⟩
       ·exact⟨QC,he,.inl ⟨rfl,by rw[t.out,<-IB];exact hj,by rw[t.out];exact hs⟩⟩
       ·refine⟨D,he,.inr ⟨rfl,(K j).2++q',?_,by rw[<-IB];exact hx⟩⟩
        obtain⟨z,hz⟩:=th;obtain⟨y,S⟩:=ld.out;exact⟨z++y++[(p,d)],by rw[<-S,<-hz];simp⟩
      have Fh:=ae (QP.below ((Qs B).drew));have sm:=ae (HJ _ _ _ J1 (Itr.of_below (Qs B).drew lr (by have:=QP.hL;omega)));have hwr:IntKind.i64.wrap ((d:Int)+1)=(d:Int)+1:=by rw[vF];omega
      clear o QJ;rw[hl] at f2;gi_region_with ((try refine⟨fun h=>(by cases h),?_⟩);gi_at_call 221;refine(HC _ _ ?_ ?_).mono ?_;(first | exact Fh | exact QP);(first | exact sm | exact J1);rintro e W3 ⟨r,rfl,H3⟩);all_goals
       cases r with
       | true =>have QQ:=H3.resolve_right (fun h=>by cases h.1);have S3:=ae QQ.2.2;have J3:=ae QQ.2.1;clear QQ H3;gi_wp2;exact⟨⟨j+1,by omega,by go_num,S3,J3⟩,by simp[intOf];omega⟩
       | false =>have QQ:=H3.resolve_left (fun h=>by cases h.1);have X3:=ae QQ.2;clear QQ H3;gi_wp2;go_ret;rw[QO.out];exact .inr ⟨rfl,X3⟩
   ·have e:m=j:=by omega
    subst e;have R:=ae (g.set G);have J2:=ae (HJ _ _ _ n8 (Itr.setCell wr (p:=(J M p Y)) g.hM.1 g.tyM (QA QC)));have P:(pre++(K m).2)++[(p,d)] <+: H:=by have QQ:=HN.out;rw[QO.out] at QQ;simpa using QQ
    have At:=HY.out (O - 1) (pre++(K m).2) (p,d) _ G J2 P (by have:=g.hL;simp;omega);obtain⟨fn,tmps,assign,body,S,hR⟩:=At;dsimp only at S;have HR:=ae hR;clear hR;have g1:=g.c1;obtain⟨g3,g4⟩:=g.row p G;have g2:=R.c2;have hp0:(0:Int)<=p:=by omega
    have hpn':(p:Int)<n:=by omega
    gi_wp2;refine⟨fun h=>(by cases h),HR.mono ?_⟩;rintro e W3 (⟨rfl,la,n7⟩ | ⟨rfl,qr⟩)
    ·have J3:=ae la
     have S3:=ae (R.upd hT n7);clear la n7;gi_wp2;go_ret;rw[QO.out];exact .inl ⟨rfl,by rw[<-IB];exact J3,S3⟩
    ·have X3:=ae qr
     clear qr;gi_wp2;go_ret;rw[QO.out];exact .inr ⟨rfl,_,M9,by rw[<-IB];exact X3⟩
attribute [local go_sem] Oper.semAt_some
theorem zQ {F:Fence}(b:F.depth=Y){m g:Nat}{P:Program}{l:Nat}{f:FuncId}{tmps:Array QB}{assign body:Code}{w:E}{R:Ending->E->Prop}
  (h:RoundIn F m P l f tmps assign body w R):RoundIn F g P l f tmps assign body w R:=⟨h.1,fun c i _=>h.2 c i (fun d h=>by rw[b] at h;cases h)⟩
theorem zR {F:Fence}(d:F.depth=Y){m:Nat}(f:Nat){P:Program}{l:Nat}{args:Array QB}{W:E}{R:Ending->E->Prop}(h:YieldAt F m P l args W R):YieldAt F f P l args W R:=by obtain⟨fn,tmps,assign,body,b,hR⟩:=h;exact⟨fn,tmps,assign,body,b,zQ d hR⟩
theorem zT:(Tryz.prog.info? 4).map (fun i=>(i.zero,i.size,i.bytes))=N (N (QA D),1,1):=by kernel_rfl
def bD (n:Nat):Array QB:=madeCells (Value.bool D).cells n
theorem x7 (n:Nat)(hn:n<=1048576)(w:E):(Instr.makeSlice 155 (Q I (n:Int)) (Q I (n:Int))).run Tryz.prog w=.ok (Z (N (J w.heap.size 0 Y)) n n) (w.alloc (T (bD n) 4)):=by obtain⟨i,hi,hz⟩:=KJ.1 zT;simp only[C9] at hz;obtain⟨h1,h2,b⟩:=hz;have h:=run_make (P:=Tryz.prog) w 155 4 i _ Tryz.underlying155 hi h1 I I n n (by omega) (Int.le_refl _) (by rw[b];omega) (by omega);rw[h2] at h;simpa[bD] using h
theorem rS (n q:Nat)(h:q<n):(bD n)[q]?=N (QA D):=by unfold bD madeCells;simp[Value.cells,h,Nat.mod_one]
theorem og (W:E)(n q:Nat)(h:q<n):(W.alloc (T (bD n) 4)).cell? (J W.heap.size q Y)=N (QA D)/\(W.alloc (T (bD n) 4)).frozen? (J W.heap.size q Y)=D:=by
 have e:=eL W (T (bD n) 4);refine⟨?_,?_⟩
 ·rw[cell_of_row _ _ _ _ _ _ e]
  exact rS n q h
 ·unfold World.frozen?
  rw[e];simp
theorem zU {g W:E}{b off n f l:Nat}(d:Below g.heap.size g W):LSt g ((W.alloc (T (bD n) 4)).alloc (T #[Z (N (J b off Y)) n f,Z (N (J W.heap.size 0 Y)) n n,.func (.yield l) #[] #[]] 283)).drew W.heap.size b off n f (W.heap.size+1) W.heap.size l (fun _=>D):=by
 have hz:(W.alloc (T (bD n) 4)).heap.size=W.heap.size+1:=by simp
 have QQ:Below (W.heap.size+1) (W.alloc (T (bD n) 4)) ((W.alloc (T (bD n) 4)).alloc (T #[Z (N (J b off Y)) n f,Z (N (J W.heap.size 0 Y)) n n,.func (.yield l) #[] #[]] 283)).drew:=(br.alloc (by omega) _).drew;refine⟨?_,?_,?_,fun q i=>?_,((d.alloc d.size _).alloc (by simp;have:=d.size;omega) _).drew,by simp,by simp;omega,by omega,d.size,?_,?_⟩
 ·simp
 ·simp
 ·simp
 ·exact⟨(QQ.cell (p:=(J W.heap.size q Y)) (lj _)).trans (og W n q i).1,(QQ.frozen (p:=(J W.heap.size q Y)) (lj _)).trans (og W n q i).2⟩
 ·exact(OfTy.new W _ _).eq (QQ.block _ (lj _))
 ·have h:=OfTy.new (W.alloc (T (bD n) 4)) #[Z (N (J b off Y)) n f,Z (N (J W.heap.size 0 Y)) n n,.func (.yield l) #[] #[]] 283
  rw[hz] at h;exact h.eq rfl
theorem zV {g W:E}{b off n d l:Nat}(f:Below g.heap.size g W):LSt g ((W.alloc (T #[Z (N (J b off Y)) n d,Z (N (J (W.heap.size+1) 0 Y)) n n,.func (.yield l) #[] #[]] 283)).alloc (T (bD n) 4)).drew W.heap.size b off n d W.heap.size (W.heap.size+1) l (fun _=>D):=by
 have hz:(W.alloc (T #[Z (N (J b off Y)) n d,Z (N (J (W.heap.size+1) 0 Y)) n n,.func (.yield l) #[] #[]] 283)).heap.size=W.heap.size+1:=by simp
 have QQ:Below (W.heap.size+1) (W.alloc (T #[Z (N (J b off Y)) n d,Z (N (J (W.heap.size+1) 0 Y)) n n,.func (.yield l) #[] #[]] 283)) ((W.alloc (T #[Z (N (J b off Y)) n d,Z (N (J (W.heap.size+1) 0 Y)) n n,.func (.yield l) #[] #[]] 283)).alloc (T (bD n) 4)).drew:=(br.alloc (by omega) _).drew;refine⟨(QQ.cell (p:=(J W.heap.size 0 Y)) (lj _)).trans (by simp),(QQ.cell (p:=(J W.heap.size 1 Y)) (lj _)).trans (by simp),(QQ.cell (p:=(J W.heap.size 2 Y)) (lj _)).trans (by simp),fun q i=>?_,((f.alloc f.size _).alloc (by simp;have:=f.size;omega) _).drew,by simp;omega,by simp,by omega,f.size,?_,?_⟩
 ·have h:=og (W.alloc (T #[Z (N (J b off Y)) n d,Z (N (J (W.heap.size+1) 0 Y)) n n,.func (.yield l) #[] #[]] 283)) n q i
  rw[hz] at h;exact h
 ·have h:=OfTy.new (W.alloc (T #[Z (N (J b off Y)) n d,Z (N (J (W.heap.size+1) 0 Y)) n n,.func (.yield l) #[] #[]] 283)) (bD n) 4
  rw[hz] at h;exact h.eq rfl
 ·exact(OfTy.new W _ _).eq (QQ.block _ (lj _))
theorem oh (v:QB)(w:E)(d:Nat):CallsIn Fence.wide d Tryz.prog 169 #[QE #[v]] w fun e b=>e=QD (.func (.func 220) #[] #[.pointer (N (J w.heap.size 0 Y))])/\b=w.alloc (T #[v] 50):=by refine callsIn_of_wp Tryz.func169 rfl trivial ?_ rfl;simp only[Tryz.ntmps169,JL,p7,E4,Nat.reduceAdd,Nat.reduceSub,JV,JW,KU,J5,IN,I5];gi_wp2;go_ret;exact⟨rfl,rfl⟩
theorem rT {QK:QF}(hT:QK≠4/\QK≠283)(k:E)(b off n d s z:Nat)(f:Nat->aj)(w:E)(hA:fK f n)(hn1:1<=n)(hn:(n:Int)<=400)(S:RowDeed k b off n f)(hlk:∀ p,p<n->(f p).linksN<=200)(i:Below k.heap.size k w)(QP:w.cell? (J s 0 Y)=N (Z (N (J b off Y)) n d))(t:s<w.heap.size):SeqT2 QK 4 Fence.wide z Tryz.prog 220 #[.pointer (N (J s 0 Y))] (fun x:Nat × Nat=>#[Value.int I (x.1:Int),Value.int I (x.2:Int)]) (fun pre x=>x.1<n/\pre++[x] <+: aB f n) k.heap.size (fun g=>g=aB f n) (fun pre=>pre <+: aB f n) w:=by
 intro l QN O W A hJ C QH B;have hl:=CB hT k W.heap.size b off n d;have G:=ae hl;clear hl;have hB:=(A.cell (p:=(J s 0 Y)) t).trans QP;have aq:=fun w=>x7 n (by omega) w;have hwb:IntKind.i64.wrap ((n:Int) - 1)=(n:Int) - 1:=by rw[vF];omega
 have QL:=ae hJ;have QQ:=ae C;have V:=ae QH;have H0:=ae B;have QJ:=ae hA;have HF:=ae S;have H:=ae hlk;have j:=ae (i.trans (A.mono i.size));have R:s<W.heap.size:=ll t A.size;clear hJ C QH B hA S hlk i A QP t;refine callsIn_of_wp Tryz.func220 rfl trivial ?_ rfl;simp only[Tryz.ntmps220,JL,p7,E4,Nat.reduceAdd,Nat.reduceSub,JV,JW,KU,J5,IN,I5];have QO:∀ L M y,LSt k y W.heap.size b off n d L M l (fun _=>D)->Below W.heap.size W y->CallsIn Fence.wide (z - 1) Tryz.prog 221 #[.pointer (N (J L 0 Y)),Q I ((n:Int) - 1),Q I 0] y fun e o =>
   ∃ r:Bool,e=QD (QA r)/\Hid ((∃ g,g=aB f n/\QN g o)∨(∃ pre,pre <+: aB f n/\O pre o)):=by
  intro L M y K X;have h:=G.out L M l (aB f n) f QN O QJ hn HF H QL QQ (fun m pre x W1 B h1 h2 h3=>zR rfl m (V pre x W1 ⟨B,h2⟩ h1 h3)) n (n - 1) 0 (fun _=>D) [] y (z - 1) (by omega) (by omega) (by omega) K rfl (QL _ _ _ H0 (Itr.of_below X lr  lr)) (by simp[aB]);rw[show((n - 1:Nat):Int)=(n:Int) - 1 by omega] at h;refine h.mono fun e o h=>?_;rcases h with ⟨QM,hj,_⟩ | ⟨QM,q,hq,hx⟩
  ·exact⟨QC,QM,.inl ⟨_,rfl,by simpa[aB] using hj⟩⟩
  ·exact⟨D,QM,.inr ⟨q,hq,by simpa using hx⟩⟩
 have u:=ae QO;have QG:=ae (((Qs W).alloc lr (T (bD n) 4)).alloc (by simp) (T #[Z (N (J b off Y)) n d,Z (N (J W.heap.size 0 Y)) n n,.func (.yield l) #[] #[]] 283)).drew;have D2:=ae (((Qs W).alloc lr (T #[Z (N (J b off Y)) n d,Z (N (J (W.heap.size+1) 0 Y)) n n,.func (.yield l) #[] #[]] 283)).alloc (by simp) (T (bD n) 4)).drew;have hfw:∀ f,Fence.wide.fn f=True:=fun _=>rfl;clear QO G QL QQ V H0 QJ HF H;gi_upto_region 0 with fail;gi_cut [3] from 4 (fun s3 wx=>∃ L,s3=.pointer (N (J L 0 Y))/\Hid (∃ M,LSt k wx W.heap.size b off n d L M l (fun _=>D))/\Hid (Below W.heap.size W wx));case first =>
  have hsf:=fun(w:E) (a:Addr) (m:Mode)=>NG Tryz.prog w a (.func (.yield l) #[] #[]) m rfl;gi_region_with fail;all_goals
   gi_wp2_with fail;gi_meet;first
    | exact⟨W.heap.size+1,rfl,⟨W.heap.size,zU j⟩,QG⟩
    | exact⟨W.heap.size,rfl,⟨W.heap.size+1,zV j⟩,D2⟩
 case rest =>
 obtain⟨L,rfl,HS,P⟩:=hcut;have hB1:=(P.cell (p:=(J s 0 Y)) R).trans hB;have HC:Hid (CallsIn Fence.wide (z - 1) Tryz.prog 221 #[.pointer (N (J L 0 Y)),Q I ((n:Int) - 1),Q I 0] wc fun e o=>∃ r:Bool,e=QD (QA r)/\Hid ((∃ g,g=aB f n/\QN g o)∨(∃ pre,pre <+: aB f n/\O pre o))):=by obtain⟨M,K⟩:=HS.out;exact u L M wc K P
 clear u HS aq P j QG D2 hB;gi_wp2_with ((try refine⟨fun h=>(by cases h),?_⟩);gi_at_call 221;refine HC.mono ?_;rintro e W3 ⟨r,rfl,H3⟩);go_end0;exact⟨⟨_,rfl⟩,H3⟩
theorem mK (d:E)(b off n i g k:Nat)(f:Nat->aj)(w:E)(o:fK f n)(hn1:1<=n)(s:(n:Int)<=400)(r:RowDeed d b off n f)(hlk:∀ p,p<n->(f p).linksN<=200)(j:Below d.heap.size d w)(l:w.cell? (J g 0 Y)=N (Z (N (J b off Y)) n i))(m:g<w.heap.size):zz Fence.wide k Tryz.prog 220 #[.pointer (N (J g 0 Y))] (fun x:Nat × Nat=>#[Value.int I (x.1:Int),Value.int I (x.2:Int)]) (fun x=>x.1<n) d.heap.size (fun q=>q=aB f n) (fun pre=>pre <+: aB f n) (aB f n).length w :=
 (rT (QK:=58) ⟨by decide,by decide⟩ d b off n i g k f w o hn1 s r hlk j l m).plain fun pre x h=>⟨h.1,by have:=h.2.length_le;simp at this;omega⟩
attribute [local go_sem] Oper.semAt_some
theorem ol {i:Nat}{pre:List (Nat × Nat)}{x:Nat × Nat}(h:bz i pre=-1):bz i (pre++[x])=if x.1=i+pre.length then -1 else ((i+pre.length:Nat):Int):=by
 induction pre generalizing i with
 | nil=>simp[bz]
 | cons y b d =>
  simp only[bz,I5] at h ⊢;split at h
  ·rename_i e
   rw[eT e,d h];simp only[p7];have:i+1+b.length=i+(b.length+1):=by omega
   rw[this]
  ·omega
theorem rU {i:Nat}{pre b:List (Nat × Nat)}(d:pre <+: b)(h:bz i pre≠-1):bz i b=bz i pre:=by
 induction pre generalizing i b with
 | nil=>exact absurd rfl h
 | cons y ys f =>
  obtain⟨t,rfl⟩:=d;simp only[bz,I5] at h ⊢;split
  ·rename_i e
   rw[eT e] at h;exact f (NM _ _) h
  ·rfl
theorem tT {f:Nat->aj}{pre:List (Nat × Nat)}{x:Nat × Nat}(h:aR f pre=-1):aR f (pre++[x])=if (f x.1).kind=3/\60<=x.2 then (x.1:Int) else -1:=by
 induction pre with
 | nil=>simp[aR]
 | cons y ys b =>
  simp only[aR,I5] at h ⊢;split at h
  ·omega
  ·rename_i e
   rw[a8 e,b h]
theorem qL {f:Nat->aj}{pre b:List (Nat × Nat)}(d:pre <+: b)(h:aR f pre≠-1):aR f b=aR f pre:=by
 induction pre generalizing b with
 | nil=>exact absurd rfl h
 | cons y ys g =>
  obtain⟨t,rfl⟩:=d;simp only[aR,I5] at h ⊢;split
  ·rfl
  ·rename_i e
   rw[a8 e] at h;exact g (NM _ _) h
structure EJ (W:E)(h:Nat)(v:QB):Prop where
 size:W.heap.size=h+4
 r:W.cell? (J (h+1) 0 Y)=N (Q I 0)/\W.frozen? (J (h+1) 0 Y)=D
 t:W.cell? (J (h+1+1) 0 Y)=N (Q I 0)/\W.frozen? (J (h+1+1) 0 Y)=D
 a:W.cell? (J (h+1+1+1) 0 Y)=N v
 a0:W.cell? (J h 0 Y)=N v
theorem wA (w:E)(v:QB)(t u:QF):EJ ((((w.alloc (T #[v] t)).alloc (T #[Q I 0] u)).alloc (T #[Q I 0] u)).alloc (T #[v] t)) w.heap.size v:=by
 have b:(w.alloc (T #[v] t)).heap.size=w.heap.size+1:=by simp
 have d:((w.alloc (T #[v] t)).alloc (T #[Q I 0] u)).heap.size=w.heap.size+1+1:=by simp
 have f:(((w.alloc (T #[v] t)).alloc (T #[Q I 0] u)).alloc (T #[Q I 0] u)).heap.size=w.heap.size+1+1+1:=by simp
 have i:Below (w.heap.size+1) (w.alloc (T #[v] t)) ((((w.alloc (T #[v] t)).alloc (T #[Q I 0] u)).alloc (T #[Q I 0] u)).alloc (T #[v] t)):=((br.alloc (by omega) _).alloc (by omega) _).alloc (by omega) _;have h:Below (w.heap.size+1+1) ((w.alloc (T #[v] t)).alloc (T #[Q I 0] u)) ((((w.alloc (T #[v] t)).alloc (T #[Q I 0] u)).alloc (T #[Q I 0] u)).alloc (T #[v] t)):=(br.alloc (by omega) _).alloc (by omega) _;have g:Below (w.heap.size+1+1+1) (((w.alloc (T #[v] t)).alloc (T #[Q I 0] u)).alloc (T #[Q I 0] u)) ((((w.alloc (T #[v] t)).alloc (T #[Q I 0] u)).alloc (T #[Q I 0] u)).alloc (T #[v] t)):=br.alloc (by omega) _;refine⟨by simp,⟨?_,?_⟩,⟨?_,?_⟩,?_,(i.cell (p:=(J w.heap.size 0 Y)) (lj _)).trans (by simp)⟩
 ·refine(h.cell (p:=(J (w.heap.size+1) 0 Y)) (lj _)).trans ?_
  rw[<-b];clear i h g b d f;generalize w.alloc (T #[v] t)=W;simp
 ·refine(h.frozen (p:=(J (w.heap.size+1) 0 Y)) (lj _)).trans ?_
  rw[<-b];clear i h g b d f;generalize w.alloc (T #[v] t)=W;simp
 ·refine(g.cell (p:=(J (w.heap.size+1+1) 0 Y)) (lj _)).trans ?_
  rw[<-d];clear i h g b d f;generalize (w.alloc (T #[v] t)).alloc (T #[Q I 0] u)=W;simp
 ·refine(g.frozen (p:=(J (w.heap.size+1+1) 0 Y)) (lj _)).trans ?_
  rw[<-d];clear i h g b d f;generalize (w.alloc (T #[v] t)).alloc (T #[Q I 0] u)=W;simp
 ·rw[<-f]
  clear i h g b d f;generalize ((w.alloc (T #[v] t)).alloc (T #[Q I 0] u)).alloc (T #[Q I 0] u)=W;simp
theorem qM (b off n d:Nat)(f:Nat->aj)(w:E)(V:fK f n)(hn1:1<=n)(hn:(n:Int)<=400)(H:RowDeed w b off n f)(hlk:∀ p,p<n->(f p).linksN<=200)(hlen:(aB f n).length<=400):Calls Tryz.prog 98 #[QE #[Z (N (J b off Y)) n d]] w fun e QJ=>e=QD (Q I (bz 0 (aB f n)))/\Below w.heap.size w QJ:=by
 refine(callsIn_wide (n:=3)).1 ?_;have HF:=ae H;have HA:=ae V;have QG:=ae hlk;clear H V hlk;have QN:=((((Qs w).alloc lr (T #[Z (N (J b off Y)) n d] 50)).alloc (by simp) (T #[Q I 0] 3)).alloc (by simp;omega) (T #[Q I 0] 3)).alloc (by simp;omega) (T #[Z (N (J b off Y)) n d] 50);have QK:=ae QN;clear QN;have z:=ae (wA w (Z (N (J b off Y)) n d) 50 3);refine callsIn_of_wp_marks Tryz.func98 rfl trivial ?_ rfl;simp only[Tryz.ntmps98,JL,p7,E4,Nat.reduceAdd,Nat.reduceSub,JV,JW,KU,J5,IN,I5];gi_wp2_with (refine⟨trivial,?_⟩;gi_at_call 169;refine(oh _ _ _).mono ?_;rintro e QJ ⟨rfl,rfl⟩);generalize (((w.alloc (T #[Z (N (J b off Y)) n d] 50)).alloc (T #[Q I 0] 3)).alloc (T #[Q I 0] 3)).alloc (T #[Z (N (J b off Y)) n d] 50)=W at QK z ⊢;have hsz:=z.size;obtain⟨O,L⟩:=z.r;obtain⟨QL,M⟩:=z.t
 refine iR (F:=Fence.wide) rfl (by omega) (gf:=220) (lb:=#[.pointer (N (J (w.heap.size+1+1+1) 0 Y))]) rfl trivial (enters_of Tryz.func220 (by kernel_rfl) rfl) (base:=w.heap.size) (by omega)
  (mK w b off n d (w.heap.size+1+1+1) (3 - 1) f W HA hn1 hn HF QG QK z.a (by omega)) br (fun _=>rfl)
  (fun pre i=>i.cell? (J (w.heap.size+1+1) 0 Y)=N (Q I (pre.length:Int))/\i.frozen? (J (w.heap.size+1+1) 0 Y)=D/\i.cell? (J (w.heap.size+1) 0 Y)=N (Q I 0)/\i.frozen? (J (w.heap.size+1) 0 Y)=D/\Hid (bz 0 pre=-1)/\Hid (Below w.heap.size w i))
  (fun c pre i=>c=.ret/\i.cell? (J (w.heap.size+1) 0 Y)=N (Q I (bz 0 pre))/\Hid (bz 0 pre≠-1)/\Hid (Below w.heap.size w i))
  (fun s A B h j=>⟨(j.cell (p:=(J (w.heap.size+1+1) 0 Y)) (by show w.heap.size+1+1<W.heap.size;omega)).trans h.1,(j.frozen (p:=(J (w.heap.size+1+1) 0 Y)) (by show w.heap.size+1+1<W.heap.size;omega)).trans h.2.1,(j.cell (p:=(J (w.heap.size+1) 0 Y)) (by show w.heap.size+1<W.heap.size;omega)).trans h.2.2.1,(j.frozen (p:=(J (w.heap.size+1) 0 Y)) (by show w.heap.size+1<W.heap.size;omega)).trans h.2.2.2.1,h.2.2.2.2.1,h.2.2.2.2.2.trans (j.mono (by omega))⟩)
  (fun c s A B h j=>⟨h.1,(j.cell (p:=(J (w.heap.size+1) 0 Y)) (by show w.heap.size+1<W.heap.size;omega)).trans h.2.1,h.2.2.1,h.2.2.2.trans (j.mono (by omega))⟩)
  ⟨QL,M,O,L,rfl,QK⟩
  (fun x=>{ tmps:=#[QE #[Z (N (J b off Y)) n d],.pointer (N (J w.heap.size 0 Y)),.pointer (N (J (w.heap.size+1) 0 Y)),.pointer (N (J (w.heap.size+1+1) 0 Y)),Q I (x.1:Int),QE #[Z (N (J b off Y)) n d],.func (.func 220) #[] #[.pointer (N (J (w.heap.size+1+1+1) 0 Y))],Q I (x.1:Int),Q I (x.2:Int),undef,undef,undef,undef,undef,undef],defers:=[] }) ?assign ?body ?done ?stop
 case assign =>intro l x W K u;gi_wp2;exact u
 case body =>
  rintro l pre x g _ ⟨hc,H,o,QO,y,q⟩ hlt hz;clear O L QL M;have hpl:(pre.length:Int)<=1048576:=by omega
  by_cases hx:(x.1:Int)=(pre.length:Int)
  ·have G:bz 0 (pre++[x])=-1:=by rw[ol y.out,eT (by omega)]
   have m:=ae G;clear G;have S:=ae (Upd.setCell (P:=fun k=>w.heap.size<=k/\k<W.heap.size) g (p:=(J (w.heap.size+1+1) 0 Y)) ⟨by show _<=_+1+1;omega,by show _+1+1<_;omega⟩ (Q I ((pre.length:Int)+1)));have C:=ae (q.setCell (p:=(J (w.heap.size+1+1) 0 Y)) (by show _<=_+1+1;omega) (Q I ((pre.length:Int)+1)));have c1:(g.setCell (J (w.heap.size+1+1) 0 Y) (Q I ((pre.length:Int)+1))).cell? (J (w.heap.size+1+1) 0 Y)=N (Q I ((pre++[x]).length:Int)):=by rw[AI _ _ _ (by rw[hc];rfl)];simp
   have c2:(g.setCell (J (w.heap.size+1+1) 0 Y) (Q I ((pre.length:Int)+1))).cell? (J (w.heap.size+1) 0 Y)=N (Q I 0):=by rw[sq _ _ _ _ (by simp)];exact o
   have QP:=ae c1;have C2:=ae c2;clear c1 c2;gi_wp2;exact⟨S,QP,by simpa using H,C2,by simpa using QO,m,C⟩
  ·have G:bz 0 (pre++[x])=(pre.length:Int):=by rw[ol y.out,a8 (by omega)];simp
   have m:=ae G;clear G;have S:=ae (Upd.setCell (P:=fun k=>w.heap.size<=k/\k<W.heap.size) g (p:=(J (w.heap.size+1) 0 Y)) ⟨by show _<=_+1;omega,by show _+1<_;omega⟩ (Q I (pre.length:Int)));have C:=ae (q.setCell (p:=(J (w.heap.size+1) 0 Y)) (by show _<=_+1;omega) (Q I (pre.length:Int)));have QP:=ae (AI g (J (w.heap.size+1) 0 Y) (Q I (pre.length:Int)) (by rw[o];rfl));gi_wp2;exact⟨S,rfl,by rw[m.out];exact QP,by show _≠_;rw[m.out];omega,C⟩
 case done =>rintro QH ys g R rfl ⟨_,_,o,QO,y,q⟩ u;have X:=ae ((KeepsOthers.setCell g (J (w.heap.size+1) 0 Y) (Q I (-1))).same QH _ u rfl);have C:=ae (q.setCell (p:=(J (w.heap.size+1) 0 Y)) (by show _<=_+1;omega) (Q I (-1)));have QP:=ae (AI g (J (w.heap.size+1) 0 Y) (Q I (-1)) (by rw[o];rfl));gi_wp2;refine⟨by simp,.inl ⟨_,_,rfl,run_takeDeferred X,?_⟩⟩;have QQ:=dy (n:=W.heap.size) (g.setCell (J (w.heap.size+1) 0 Y) (Q I (-1))) R (x5.1 X).1 (.deferred Y);have c:=(QQ.cell (p:=(J (w.heap.size+1) 0 Y)) (by show w.heap.size+1<W.heap.size;omega)).trans QP;exact⟨Q I (-1),by simp[results,Tryz.results98,go_sem,c],by rw[y.out],C.trans (QQ.mono (by omega))⟩
 case stop =>rintro QH c pre g R QM ⟨rfl,o,y,q⟩ u;gi_wp2;refine⟨by simp,.inl ⟨_,_,rfl,run_takeDeferred u,?_⟩⟩;have QQ:=dy (n:=W.heap.size) g R (x5.1 u).1 (.deferred Y);have c:=(QQ.cell (p:=(J (w.heap.size+1) 0 Y)) (by show w.heap.size+1<W.heap.size;omega)).trans o;exact⟨Q I (bz 0 pre),by simp[results,Tryz.results98,go_sem,c],by rw[rU QM y.out],q.trans (QQ.mono (by omega))⟩
structure EK (W:E)(h:Nat)(v:QB):Prop where
 size:W.heap.size=h+3
 r:W.cell? (J (h+1) 0 Y)=N (Q I 0)/\W.frozen? (J (h+1) 0 Y)=D
 a:W.cell? (J (h+1+1) 0 Y)=N v
 a0:W.cell? (J h 0 Y)=N v
theorem wB (w:E)(v:QB)(t u:QF):EK (((w.alloc (T #[v] t)).alloc (T #[Q I 0] u)).alloc (T #[v] t)) w.heap.size v:=by
 have b:(w.alloc (T #[v] t)).heap.size=w.heap.size+1:=by simp
 have d:((w.alloc (T #[v] t)).alloc (T #[Q I 0] u)).heap.size=w.heap.size+1+1:=by simp
 have g:Below (w.heap.size+1) (w.alloc (T #[v] t)) (((w.alloc (T #[v] t)).alloc (T #[Q I 0] u)).alloc (T #[v] t)):=(br.alloc (by omega) _).alloc (by omega) _;have f:Below (w.heap.size+1+1) ((w.alloc (T #[v] t)).alloc (T #[Q I 0] u)) (((w.alloc (T #[v] t)).alloc (T #[Q I 0] u)).alloc (T #[v] t)):=br.alloc (by omega) _;refine⟨by simp,⟨?_,?_⟩,?_,(g.cell (p:=(J w.heap.size 0 Y)) (lj _)).trans (by simp)⟩
 ·refine(f.cell (p:=(J (w.heap.size+1) 0 Y)) (lj _)).trans ?_
  rw[<-b];clear g f b d;generalize w.alloc (T #[v] t)=W;simp
 ·refine(f.frozen (p:=(J (w.heap.size+1) 0 Y)) (lj _)).trans ?_
  rw[<-b];clear g f b d;generalize w.alloc (T #[v] t)=W;simp
 ·rw[<-d]
  clear g f b d;generalize (w.alloc (T #[v] t)).alloc (T #[Q I 0] u)=W;simp
theorem tU (b off n d:Nat)(f:Nat->aj)(w:E)(S:fK f n)(hn1:1<=n)(hn:(n:Int)<=400)(V:RowDeed w b off n f)(hlk:∀ p,p<n->(f p).linksN<=200):Calls Tryz.prog 99 #[QE #[Z (N (J b off Y)) n d]] w fun e QM=>e=QD (Q I (aR f (aB f n)))/\Below w.heap.size w QM:=by
 refine(callsIn_wide (n:=3)).1 ?_;have O:=ae V;have HA:=ae S;have QG:=ae hlk;clear V S hlk;have QQ:=(((Qs w).alloc lr (T #[Z (N (J b off Y)) n d] 50)).alloc (by simp) (T #[Q I 0] 3)).alloc (by simp;omega) (T #[Z (N (J b off Y)) n d] 50);have QL:=ae QQ;clear QQ;have u:=ae (wB w (Z (N (J b off Y)) n d) 50 3);refine callsIn_of_wp_marks Tryz.func99 rfl trivial ?_ rfl;simp only[Tryz.ntmps99,JL,p7,E4,Nat.reduceAdd,Nat.reduceSub,JV,JW,KU,J5,IN,I5];gi_wp2_with (refine⟨trivial,?_⟩;gi_at_call 169;refine(oh _ _ _).mono ?_;rintro e QM ⟨rfl,rfl⟩);generalize ((w.alloc (T #[Z (N (J b off Y)) n d] 50)).alloc (T #[Q I 0] 3)).alloc (T #[Z (N (J b off Y)) n d] 50)=W at QL u ⊢;have hsz:=u.size;obtain⟨G,QP⟩:=u.r;have X:=u.a0
 refine iR (F:=Fence.wide) rfl (by omega) (gf:=220) (lb:=#[.pointer (N (J (w.heap.size+1+1) 0 Y))]) rfl trivial (enters_of Tryz.func220 (by kernel_rfl) rfl) (base:=w.heap.size) (by omega)
  (mK w b off n d (w.heap.size+1+1) (3 - 1) f W HA hn1 hn O QG QL u.a (by omega)) br (fun _=>rfl)
  (fun pre m=>m.cell? (J w.heap.size 0 Y)=N (Z (N (J b off Y)) n d)/\m.cell? (J (w.heap.size+1) 0 Y)=N (Q I 0)/\m.frozen? (J (w.heap.size+1) 0 Y)=D/\Hid (aR f pre=-1)/\Hid (Below w.heap.size w m))
  (fun c pre m=>c=.ret/\m.cell? (J (w.heap.size+1) 0 Y)=N (Q I (aR f pre))/\Hid (aR f pre≠-1)/\Hid (Below w.heap.size w m))
  (fun s A B h q=>⟨(q.cell (p:=(J w.heap.size 0 Y)) (by show w.heap.size<W.heap.size;omega)).trans h.1,(q.cell (p:=(J (w.heap.size+1) 0 Y)) (by show w.heap.size+1<W.heap.size;omega)).trans h.2.1,(q.frozen (p:=(J (w.heap.size+1) 0 Y)) (by show w.heap.size+1<W.heap.size;omega)).trans h.2.2.1,h.2.2.2.1,h.2.2.2.2.trans (q.mono (by omega))⟩)
  (fun c s A B h q=>⟨h.1,(q.cell (p:=(J (w.heap.size+1) 0 Y)) (by show w.heap.size+1<W.heap.size;omega)).trans h.2.1,h.2.2.1,h.2.2.2.trans (q.mono (by omega))⟩)
  ⟨X,G,QP,rfl,QL⟩
  (fun x=>{ tmps:=#[QE #[Z (N (J b off Y)) n d],.pointer (N (J w.heap.size 0 Y)),.pointer (N (J (w.heap.size+1) 0 Y)),Q I (x.1:Int),Q I (x.2:Int),QE #[Z (N (J b off Y)) n d],.func (.func 220) #[] #[.pointer (N (J (w.heap.size+1+1) 0 Y))],Q I (x.1:Int),Q I (x.2:Int),undef,undef,undef,undef,undef,undef,undef,undef,undef,undef,undef,undef],defers:=[] }) ?assign ?body ?done ?stop
 case assign =>intro l x W K t;gi_wp2;exact t
 case body =>
  rintro l pre x j QK ⟨R,o,z,C,i⟩ hlt hz;clear G QP X;obtain⟨_,p1,_⟩:=(O.below i lr).2 x.1 QK;have hx0:(0:Int)<=(x.1:Int):=by omega
  have hxn:(x.1:Int)<n:=by omega
  have M:=ae (tT (x:=x) C);have U1:=ae (Upd.setCell (P:=fun k=>w.heap.size<=k/\k<W.heap.size) j (p:=(J (w.heap.size+1) 0 Y)) ⟨by show _<=_+1;omega,by show _+1<_;omega⟩ (Q I (x.1:Int)));have H:=ae (i.setCell (p:=(J (w.heap.size+1) 0 Y)) (by show _<=_+1;omega) (Q I (x.1:Int)));have QO:=ae (AI j (J (w.heap.size+1) 0 Y) (Q I (x.1:Int)) (by rw[o];rfl));cases h3:((f x.1).kind == 3) with
  | false =>
   have g:Hid (aR f (pre++[x])=-1):=by show _=_;rw[M.out,a8 (by intro h;rw[h.1] at h3;simp at h3)]
   gi_wp2;exact⟨Upd.refl _ _,R,o,z,g,i⟩
  | true =>
   by_cases h6:(60:Int)<=(x.2:Int)
   ·have g:Hid (aR f (pre++[x])=(x.1:Int)):=by show _=_;rw[M.out,eT ⟨by simpa using h3,by omega⟩]
    gi_wp2;exact⟨U1,rfl,by rw[g.out];exact QO,by show _≠_;rw[g.out];omega,H⟩
   ·have g:Hid (aR f (pre++[x])=-1):=by show _=_;rw[M.out,a8 (by intro h;omega)]
    gi_wp2;exact⟨Upd.refl _ _,R,o,z,g,i⟩
 case done =>rintro QH ys j L rfl ⟨_,o,z,C,i⟩ t;have QJ:=ae ((KeepsOthers.setCell j (J (w.heap.size+1) 0 Y) (Q I (-1))).same QH _ t rfl);have H:=ae (i.setCell (p:=(J (w.heap.size+1) 0 Y)) (by show _<=_+1;omega) (Q I (-1)));have QO:=ae (AI j (J (w.heap.size+1) 0 Y) (Q I (-1)) (by rw[o];rfl));gi_wp2;refine⟨by simp,.inl ⟨_,_,rfl,run_takeDeferred QJ,?_⟩⟩;have y:=dy (n:=W.heap.size) (j.setCell (J (w.heap.size+1) 0 Y) (Q I (-1))) L (x5.1 QJ).1 (.deferred Y);have c:=(y.cell (p:=(J (w.heap.size+1) 0 Y)) (by show w.heap.size+1<W.heap.size;omega)).trans QO;exact⟨Q I (-1),by simp[results,Tryz.results99,go_sem,c],by rw[C.out],H.trans (y.mono (by omega))⟩
 case stop =>rintro QH c pre j L QN ⟨rfl,o,C,i⟩ t;gi_wp2;refine⟨by simp,.inl ⟨_,_,rfl,run_takeDeferred t,?_⟩⟩;have y:=dy (n:=W.heap.size) j L (x5.1 t).1 (.deferred Y);have c:=(y.cell (p:=(J (w.heap.size+1) 0 Y)) (by show w.heap.size+1<W.heap.size;omega)).trans o;exact⟨Q I (aR f pre),by simp[results,Tryz.results99,go_sem,c],by rw[qL QN C.out],i.trans (y.mono (by omega))⟩
end Go.Proofs.YtkdimgejdocbbaaGreatDoor.Vp
namespace Go.Proofs.YtkdimgejdocbbaaGreatDoor.Vp
open RowKit
theorem oo (g:Nat->Bool)(n:Nat):aJ g n=-1∨0<=aJ g n:=by
 induction n with
 | zero=>exact .inl rfl
 | succ k b =>
  rw[aJ];split
  ·split
   ·exact .inl rfl
   ·exact .inr (by omega)
  ·exact b
theorem zW (i:Nat)(b:List (Nat × Nat)):bz i b=-1∨0<=bz i b:=by
 induction b generalizing i with
 | nil=>exact .inl rfl
 | cons x b d =>
  rw[bz];split
  ·exact d _
  ·exact .inr (by omega)
theorem pQ (f:Nat->aj)(b:List (Nat × Nat)):aR f b=-1∨0<=aR f b:=by
 induction b with
 | nil=>exact .inl rfl
 | cons x b d =>
  rw[aR];split
  ·exact .inr (by omega)
  ·exact d
theorem nh {f:Nat->aj}{n:Nat}(h:aJ (bc f) n=-1):∀ p,p<n->(f p).linksN<=200:=by
 intro p b;have h1:=dW h p b;simp only[bc,gM,kindOk] at h1;obtain⟨_,h2⟩:=h1;split at h2
 ·simp[aO] at h2
  omega
 ·split at h2
  ·simp[aO] at h2
   omega
  ·split at h2
   ·simp only[ce,gM,j4] at h2
    omega
   ·cases h2
theorem zX {f:Nat->aj}{n:Nat}(h:aJ (bc f) n=-1):∀ p,p<n->(f p).name.size<=maxLen:=by intro p b;have h1:=dW h p b;simp only[bc,au,gM,j4] at h1;unfold maxLen;omega
theorem jD {f:Nat->aj}{n:Nat}(b:fK f n)(hn:1<=n):(aB f n).length<=n:=by
 have h:=(uB b n (n - 1) 0 (fun _=>D) (by omega) (by omega) rfl).num;have h2:=Eb (lst f n (n - 1) 0 (fun _=>D)).1 n;have g:∀ k,cnt (fun _=>D) k=0:=by
  intro k;induction k with
  | zero=>rfl
  | succ j d=>rw[cnt,d];rfl
 rw[g] at h;unfold aB;omega
structure EL (w:E)(b:Nat)(v0 v1 v2 v3:QB):Prop where
 lt:b<w.heap.size
 c0:w.cell? (J b 0 Y)=N v0
 c1:w.cell? (J b 1 Y)=N v1
 c2:w.cell? (J b 2 Y)=N v2
 c3:w.cell? (J b 3 Y)=N v3
theorem CE (w:E)(f g b d:QB)(t:QF):EL (w.alloc (T #[f,g,b,d] t)) w.heap.size f g b d:=⟨by simp,by simp,by simp,by simp,by simp⟩
theorem tV (a:Option Addr)(n l:Nat)(f:Nat->aj)(w:E)(hn:(n:Int)<=1048576)(hv:SlDeed w a n f)(R:(n:Int)<=l)(L:∀ i,i<n->cY (f i))(hT:Tab w):Calls Tryz.prog 24 #[QE #[Z a n l]] w fun e w'=>e=QD (.tuple #[Q I (dr f n).1,Q I (dr f n).2])/\Below w.heap.size w w':=by
 have V:=ae hv;have HM:=ae L;have HT:=ae hT;clear hv L hT;have QL:=ae ((Qs w).alloc lr (T #[Z a n l] 50));have QH:(w.alloc (T #[Z a n l] 50)).cell? (J w.heap.size 0 Y)=N (Z a n l):=by simp
 obtain⟨c1,c2,B⟩:∃ c1 c2,dr f n=(c1,c2):=⟨_,_,rfl⟩
 rw[B];have H:=ae B;clear B;by_cases h0:(n:Int)=0
 ·have d:c1=1/\c2=0:=by have:=H.out;unfold dr at this;rw[eT (.inl (by omega))] at this;simp only[C9] at this;omega
  clear H;obtain⟨d,y⟩:=d;subst d y;obtain rfl:n=0:=by omega
  go_enter Tryz.func24,Tryz.ntmps24;go_wp2;go_ret2;exact⟨rfl,QL⟩
 by_cases h4:(400:Int)<(n:Int)
 ·have d:c1=1/\c2=0:=by have:=H.out;unfold dr at this;rw[eT (.inr (by omega))] at this;simp only[C9] at this;omega
  clear H;obtain⟨d,y⟩:=d;subst d y;have aq:((n:Int) == 0)=D:=by simpa using h0
  go_enter Tryz.func24,Tryz.ntmps24;go_wp2;go_ret2;exact⟨rfl,QL⟩
 have m:Hid ((if aJ (bc f) n≠-1 then ((2:Int),aJ (bc f) n) else if aJ (fun p=>aQ f p p) n≠-1 then (3,aJ (fun p=>aQ f p p) n) else if bz 0 (aB f n)≠-1 then (4,bz 0 (aB f n)) else if aR f (aB f n)≠-1 then (5,aR f (aB f n)) else (0,0))=(c1,c2)):=by have:=H.out;unfold dr at this;rw[a8 (by omega)] at this;exact this
 clear H;obtain⟨b,off,rfl,QO⟩:=V.resolve_left (by omega);have M:=ae QO;have aq:((n:Int) == 0)=D:=by simpa using h0
 clear V QO;have G:(n:Int)<=400:=by omega
 have P:=ae (QL.alloc (by simp) (T #[.func (.func 96) #[] #[],.func (.func 97) #[] #[],.func (.func 98) #[] #[],.func (.func 99) #[] #[]] 135));go_enter Tryz.func24,Tryz.ntmps24;go_wp2;have O:(w.alloc (T #[Z (N (J b off Y)) n l] 50)).heap.size=w.heap.size+1:=by simp
 have C:=ae (CE (w.alloc (T #[Z (N (J b off Y)) n l] 50)) (.func (.func 96) #[] #[]) (.func (.func 97) #[] #[]) (.func (.func 98) #[] #[]) (.func (.func 99) #[] #[]) 135);rw[O] at C;have QG:=(((eI (w.heap.size+1) (w.alloc (T #[Z (N (J b off Y)) n l] 50))).alloc (by omega) (T #[.func (.func 96) #[] #[],.func (.func 97) #[] #[],.func (.func 98) #[] #[],.func (.func 99) #[] #[]] 135)).cell (p:=(J w.heap.size 0 Y)) (lj _)).trans QH;clear O QH QL;generalize (w.alloc (T #[Z (N (J b off Y)) n l] 50)).alloc (T #[.func (.func 96) #[] #[],.func (.func 97) #[] #[],.func (.func 98) #[] #[],.func (.func 99) #[] #[]] 135)=W at P C QG ⊢;have QP:w.heap.size+1<W.heap.size:=C.lt;go_loopw [21] (fun i wr=>∃ k:Nat,k<=4/\i=Q I k/\Hid (1<=k->aJ (bc f) n=-1)/\Hid (2<=k->aJ (fun p=>aQ f p p) n=-1)/\Hid (3<=k->bz 0 (aB f n)=-1)/\Hid (4<=k->aR f (aB f n)=-1)/\Hid (Below W.heap.size W wr)) (fun i _=>4 - (intOf i).toNat);case atStart=>exact⟨0,by omega,rfl,fun h=>by omega,fun h=>by omega,fun h=>by omega,fun h=>by omega,eI _ _⟩
 case round =>
  obtain⟨k,hk,rfl,x,QN,S,H4,t⟩:=hrel;have k2:=(t.cell (p:=(J w.heap.size 0 Y)) (by show w.heap.size<_;omega)).trans QG;have u:=ae (P.trans (t.mono P.size));by_cases hlt:k<4
  ·rcases(show k=0∨k=1∨k=2∨k=3 by omega) with rfl | rfl | rfl | rfl
   ·have QK:=(t.cell (p:=(J (w.heap.size+1) 0 Y)) QP).trans C.c0
    have s:=ae (qE b off n l f _ G (M.below u lr) R HM (HT.below u HT.1));have r:=ae (oo _ _:aJ (bc f) n=-1∨0<=aJ (bc f) n);obtain⟨X,o⟩:∃ X,X=aJ (bc f) n:=⟨_,rfl⟩
    rw[<-o] at s r;have j:=ae o;clear o;go_wp2_with fail;refine s.mono ?_;rintro e QM ⟨rfl,q⟩;have QQ:=ae (u.trans (q.mono u.size));have z:=ae (t.trans (q.mono t.size));clear q s;by_cases g:X=-1
    ·have A:Hid (aJ (bc f) n=-1):=j.symm.trans g
     have QJ:decide (0<=X)=D:=by rw[g];rfl
     clear g;go_wp2;exact⟨⟨0+1,by omega,by go_num,fun _=>A,fun h=>by omega,fun h=>by omega,fun h=>by omega,z⟩,by simp[intOf]⟩
    ·have d:c1=2/\c2=X:=by
      have:=m.out;rw[eT (by rw[<-j.out];exact g),<-j.out] at this;simp only[C9] at this;omega
     have K:0<=X:=r.resolve_left g;obtain⟨d,y⟩:=d;clear m g r;subst d y;go_wp2;go_ret2;exact⟨rfl,QQ⟩
   ·have QK:=(t.cell (p:=(J (w.heap.size+1) 1 Y)) QP).trans C.c1
    have s:=ae (qK b off n l f _ G (M.below u lr) (zX (x (by omega))));have r:=ae (oo _ _:aJ (fun p=>aQ f p p) n=-1∨0<=aJ (fun p=>aQ f p p) n);obtain⟨X,o⟩:∃ X,X=aJ (fun p=>aQ f p p) n:=⟨_,rfl⟩
    rw[<-o] at s r;have j:=ae o;clear o;go_wp2_with fail;refine s.mono ?_;rintro e QM ⟨rfl,q⟩;have QQ:=ae (u.trans (q.mono u.size));have z:=ae (t.trans (q.mono t.size));clear q s;by_cases g:X=-1
    ·have A:Hid (aJ (fun p=>aQ f p p) n=-1):=j.symm.trans g
     have QJ:decide (0<=X)=D:=by rw[g];rfl
     clear g;go_wp2;exact⟨⟨1+1,by omega,by go_num,fun _=>x (by omega),fun _=>A,fun h=>by omega,fun h=>by omega,z⟩,by simp[intOf]⟩
    ·have d:c1=3/\c2=X:=by
      have:=m.out;rw[a8 (by rw[x.out (by omega)];simp),eT (by rw[<-j.out];exact g),<-j.out] at this;simp only[C9] at this;omega
     have K:0<=X:=r.resolve_left g;obtain⟨d,y⟩:=d;clear m g r;subst d y;go_wp2;go_ret2;exact⟨rfl,QQ⟩
   ·have QK:=(t.cell (p:=(J (w.heap.size+1) 2 Y)) QP).trans C.c2
    have s:=ae (qM b off n l f _ (iT (x (by omega))) (by omega) G (M.below u lr) (nh (x (by omega))) (by have:=jD (iT (x (by omega))) (n:=n) (by omega);omega));have r:=ae (zW _ _:bz 0 (aB f n)=-1∨0<=bz 0 (aB f n));obtain⟨X,o⟩:∃ X,X=bz 0 (aB f n):=⟨_,rfl⟩
    rw[<-o] at s r;have j:=ae o;clear o;go_wp2_with fail;refine s.mono ?_;rintro e QM ⟨rfl,q⟩;have QQ:=ae (u.trans (q.mono u.size));have z:=ae (t.trans (q.mono t.size));clear q s;by_cases g:X=-1
    ·have A:Hid (bz 0 (aB f n)=-1):=j.symm.trans g
     have QJ:decide (0<=X)=D:=by rw[g];rfl
     clear g;go_wp2;exact⟨⟨2+1,by omega,by go_num,fun _=>x (by omega),fun _=>QN (by omega),fun _=>A,fun h=>by omega,z⟩,by simp[intOf]⟩
    ·have d:c1=4/\c2=X:=by
      have:=m.out;rw[a8 (by rw[x.out (by omega)];simp),a8 (by rw[QN.out (by omega)];simp),eT (by rw[<-j.out];exact g),<-j.out] at this;simp only[C9] at this;omega
     have K:0<=X:=r.resolve_left g;obtain⟨d,y⟩:=d;clear m g r;subst d y;go_wp2;go_ret2;exact⟨rfl,QQ⟩
   ·have QK:=(t.cell (p:=(J (w.heap.size+1) 3 Y)) QP).trans C.c3
    have s:=ae (tU b off n l f _ (iT (x (by omega))) (by omega) G (M.below u lr) (nh (x (by omega))));have r:=ae (pQ _ _:aR f (aB f n)=-1∨0<=aR f (aB f n));obtain⟨X,o⟩:∃ X,X=aR f (aB f n):=⟨_,rfl⟩
    rw[<-o] at s r;have j:=ae o;clear o;go_wp2_with fail;refine s.mono ?_;rintro e QM ⟨rfl,q⟩;have QQ:=ae (u.trans (q.mono u.size));have z:=ae (t.trans (q.mono t.size));clear q s;by_cases g:X=-1
    ·have A:Hid (aR f (aB f n)=-1):=j.symm.trans g
     have QJ:decide (0<=X)=D:=by rw[g];rfl
     clear g;go_wp2;exact⟨⟨3+1,by omega,by go_num,fun _=>x (by omega),fun _=>QN (by omega),fun _=>S (by omega),fun _=>A,z⟩,by simp[intOf]⟩
    ·have d:c1=5/\c2=X:=by
      have:=m.out;rw[a8 (by rw[x.out (by omega)];simp),a8 (by rw[QN.out (by omega)];simp),a8 (by rw[S.out (by omega)];simp),eT (by rw[<-j.out];exact g),<-j.out] at this;simp only[C9] at this;omega
     have K:0<=X:=r.resolve_left g;obtain⟨d,y⟩:=d;clear m g r;subst d y;go_wp2;go_ret2;exact⟨rfl,QQ⟩
  ·obtain rfl:k=4:=by omega
   have d:c1=0/\c2=0:=by have:=m.out;rw[a8 (by rw[x.out (by omega)];simp),a8 (by rw[QN.out (by omega)];simp),a8 (by rw[S.out (by omega)];simp),a8 (by rw[H4.out (by omega)];simp)] at this;simp only[C9] at this;omega
   obtain⟨d,y⟩:=d;clear m;subst d y;go_wp2;go_ret2;exact⟨rfl,u⟩
end Go.Proofs.YtkdimgejdocbbaaGreatDoor.Vp
