import Derived.Test.YtamacmnikdejeaaGreatDoorSC
import Derived.RangeFuncNested
import Derived.RangeFuncBound
import Derived.RangeFuncCalls
import Derived.RangeFuncLeaves
import Derived.Shelf.Abstract
import Derived.Shelf.RegionOpen
import Derived.OwnWalkIn
import Derived.TacticsInMore
import Derived.LoopNIn
import Derived.LoopIn
import Derived.Sort.QuietIn
import Derived.Sort.BigQuietIn
import Derived.Sort.CutIn
import Derived.Test.YtamacmnikdejeaaGreatDoorSE
import Derived.Maps.OwnSet
import Derived.Maps.Views
import Derived.StringKeys
set_option maxRecDepth 100000
set_option maxHeartbeats 4000000
set_option linter.unusedSimpArgs false
open Go.Addr renaming mk->N
open Go.Value renaming slice->Y
open Option renaming none->Z,some->T
open Go.Obj renaming cells->Q
open Go.IntKind renaming i64->I
open Go renaming World->G,Value->QE
open Bool renaming false->QB,true->QD
open Go.Ending renaming returned->QF
namespace Go.Proofs.YtamacmnikdejeaaGreatDoor.Vp
open RowKit
theorem Cp {f:Nat->ah}{k:Nat}{D:DataW Unit}(b:Maps.IsMap D)(h:∀ p,Maps.has D (.string (f p).name.data.toList)=!aH f p k)(d:DataW Unit):∀ p,Maps.has (D.put (.string (f k).name.data.toList) d) (.string (f p).name.data.toList)=!aH f p (k+1):=by
 intro p;rw[aH,Bool.not_and,<-h p,Bool.not_not];by_cases e:(f p).name.data.toList=(f k).name.data.toList
 ·rw[e,Maps.has_put_same b (by simp[WideAt.IsKeyLit])]
  simp[IX,e]
 ·rw[Maps.has_put_other (by simpa using e)]
  have:((f k).name.toList == (f p).name.toList)=QB:=by simpa[IX] using fun h=>e (by rw[h])
  rw[this];simp
theorem rE (b off n cap:Nat)(f:Nat->ah)(w:G)(hn:(n:Int)<=400)(QM:RowDeed w b off n f)(L:∀ i,i<n->(f i).name.size<=maxLen):Calls Tryz.prog 133 #[.agg #[Y (T (N b off Z)) n cap]] w fun e w'=>e=QF (.int I (aF (fun p=>aH f p p) n))/\Below w.heap.size w w':=by
 have HF:=ae QM;have QJ:=ae L;clear QM L;have V:=ae (((q9 w).alloc ly (Q #[Y (T (N b off Z)) n cap] 25)).alloc (by simp) (.map #[] 0));have C:=ae (World.ownsMap_made (w.alloc (Q #[Y (T (N b off Z)) n cap] 25)) Tryz.prog 9 (plainElem (H:=Unit) Tryz.prog 3));have hz:(w.alloc (Q #[Y (T (N b off Z)) n cap] 25)).heap.size=w.heap.size+1:=by simp
 rw[hz] at C;clear hz;obtain⟨r,QP⟩:∃ r,r=aF (fun p=>aH f p p) n:=⟨_,rfl⟩
 rw[<-QP];have R:=ae QP;clear QP;have QN:=@run_makeMap Tryz.prog;go_enter Tryz.func133,Tryz.ntmps133;go_wp2;clear QN;generalize (w.alloc (Q #[Y (T (N b off Z)) n cap] 25)).alloc (.map #[] 0)=W at V C ⊢;obtain⟨o,z⟩:∃ o,o=w.heap.size+1:=⟨_,rfl⟩
 rw[<-z] at C ⊢;have QL:=ae z;clear z;go_loopw [12] (fun i wr=>∃ (k:Nat) (D:DataW Unit),k<=n/\i=.int I k/\Hid (∀ j,j<k->aH f j j=QD)/\Hid (wr.ownsMap Tryz.prog 9 (plainElem (H:=Unit) Tryz.prog 3) o k D)/\Hid (∀ p,Maps.has D (.string (f p).name.data.toList)=!aH f p k)/\Hid (Below w.heap.size w wr)) (fun i _=>n - (intOf i).toNat);case atStart=>exact⟨0,_,by omega,rfl,fun j M=>absurd M (E4 _),C,fun p=>rfl,V⟩
 case round =>
  obtain⟨k,D,hk,rfl,K,B,O,h⟩:=hrel;by_cases u:k<n
  ·obtain⟨p0,p1,p2,p3,⟨a0,q,p4,QH⟩,⟨a1,A,p5,q5⟩⟩:=(HF.below h ly).2 k u
   clear QH q5;have x:=WideMaps.keyOf_string_mk (P:=Tryz.prog) (k:=9) Tryz.underlying9 (QJ k u);have l:=ae x;have E:=ae (O k);clear x;cases hnew:aH f k k with
   | false =>
    have t:Maps.has D (.string (f k).name.data.toList)=QD:=by rw[E.out,hnew];rfl
    have HHS:=ae t;obtain rfl:r=k:=by rw[R.out];exact fx u hnew K
    clear hnew;have QO:=ae (h.alloc h.size (Q #[.string (f k).name,.int I (f k).kind,.int I (f k).code,.string (f k).text,Y a0 (f k).actN q,Y a1 (f k).linksN A] 46));go_wp2_with (at_lookup;refine wpList_lookup_own_ok_int _ rfl _ _ 245 rfl 9 3 I (Maps.string_keyed Tryz.underlying9) Tryz.underlying245 Tryz.underlying3 (Tryz.zeroValue3 _) o k D rfl (B.alloc _) _ _ rfl l ?_;intro c s y;clear s y);go_ret;exact⟨rfl,QO⟩
   | true =>
    have t:Maps.has D (.string (f k).name.data.toList)=QB:=by rw[E.out,hnew];rfl
    have S:=ae hnew;clear hnew;have QR:(Lit.int I (k:Int)).wf=QD:=by simp only[Lit.wf,IntKind.min,IntKind.max,IntKind.signed,IntKind.bits,j4,j5,if_true];omega
    have QK:=ae QR;clear QR
    go_wp2_with (first
     | (at_lookup;refine wpList_lookup_own_ok_int _ rfl _ _ 245 rfl 9 3 I (Maps.string_keyed Tryz.underlying9) Tryz.underlying245 Tryz.underlying3 (Tryz.zeroValue3 _) o k D rfl (B.alloc _) _ _ rfl l ?_;intro c s y;clear s y)
     | (at_mapUpdate;refine wpList_mapUpdate_own _ rfl _ _ _ 245 rfl 9 3 (Maps.string_keyed Tryz.underlying9) Tryz.underlying245 _ o k D rfl (B.alloc _) (by unfold maxLen;omega) _ _ _ rfl rfl l _ [] (plainElem_int Tryz.underlying3 QK) ?_;intro w1 m g;have X:=ae m;have QO:=ae (bg (h.alloc h.size (Q #[.string (f k).name,.int I (f k).kind,.int I (f k).code,.string (f k).text,Y a0 (f k).actN q,Y a1 (f k).linksN A] 46)) g (by have:=h.size;simp;omega) (fun j e=>by cases e;have:=QL.out;omega));clear m g))
    exact⟨⟨k+1,_,by omega,by go_num,fun j M=>by
     by_cases e:j=k
     ·subst e;exact S
     ·exact K j (by omega),X,Cp B.isMap O _,QO⟩,by simp[intOf];omega⟩
  ·have e:n=k:=by omega
   subst e;obtain rfl:r=-1:=by rw[R.out];exact dS K
   go_wp2;go_ret;exact⟨rfl,h⟩
end Go.Proofs.YtamacmnikdejeaaGreatDoor.Vp
namespace Go.Proofs.YtamacmnikdejeaaGreatDoor.Vp
open RowKit Go.Shelf Ca
attribute [local go_sem] Oper.semAt_some
structure LSt (w0 W:G)(n1 b off n cap L M l:Nat)(s:Nat->Bool):Prop where
 c0:W.cell? (N L 0 Z)=T (Y (T (N b off Z)) n cap)
 c1:W.cell? (N L 1 Z)=T (Y (T (N M 0 Z)) n n)
 c2:W.cell? (N L 2 Z)=T (.func (.yield l) #[] #[])
 row:∀ q,q<n->W.cell? (N M q Z)=T (.bool (s q))/\W.frozen? (N M q Z)=QB
 low:Below w0.heap.size w0 W
 hL:n1<=L/\L<W.heap.size
 hM:n1<=M/\M<W.heap.size
 ne:L≠M
 hb:w0.heap.size<=n1
 tyM:OfTy W M 4
 tyL:OfTy W L 276
theorem LSt.blocks {g W f:G}{n1 b off n cap L M l:Nat}{s:Nat->Bool}(h:LSt g W n1 b off n cap L M l s)(hz:W.heap.size<=f.heap.size)(j:f.heap[L]?=W.heap[L]?)(i:f.heap[M]?=W.heap[M]?)(p:Below g.heap.size g f):LSt g f n1 b off n cap L M l s:=by have c:∀ o,f.cell? (N L o Z)=W.cell? (N L o Z):=fun o=>cq (a:=(N L o Z)) j;exact⟨(c 0).trans h.c0,(c 1).trans h.c1,(c 2).trans h.c2,fun q m=>⟨(cq (a:=(N M q Z)) i).trans (h.row q m).1,(IQ (a:=(N M q Z)) i).trans (h.row q m).2⟩,p,⟨h.hL.1,lj h.hL.2 hz⟩,⟨h.hM.1,lj h.hM.2 hz⟩,h.ne,h.hb,h.tyM.eq i,h.tyL.eq j⟩
theorem LSt.below {f W g:G}{n1 b off n cap L M l:Nat}{s:Nat->Bool}(h:LSt f W n1 b off n cap L M l s)(hb:Below W.heap.size W g):LSt f g n1 b off n cap L M l s :=
 h.blocks hb.size (hb.block L h.hL.2) (hb.block M h.hM.2) (h.low.trans (hb.mono h.low.size))
theorem LSt.upd {g W i:G}{n1 b off n cap L M l:Nat}{s:Nat->Bool}{QL:TypeId}(j:QL≠4/\QL≠276)(h:LSt g W n1 b off n cap L M l s)(f:Upd2 QL g.heap.size n1 W i):LSt g i n1 b off n cap L M l s :=
 h.blocks f.size (f.block L h.hL.2 (.inr ⟨h.hL.1,h.tyL.ne j.2⟩)) (f.block M h.hM.2 (.inr ⟨h.hM.1,h.tyM.ne j.1⟩)) (h.low.trans (f.below h.low.size))
theorem LSt.set {g W:G}{n1 b off n cap L M l p:Nat}{s:Nat->Bool}(h:LSt g W n1 b off n cap L M l s)(hp:p<n):LSt g (W.setCell (N M p Z) (.bool QD)) n1 b off n cap L M l (put s p):=by
 have c:∀ o,(W.setCell (N M p Z) (.bool QD)).cell? (N L o Z)=W.cell? (N L o Z):=fun o=>sq _ _ _ _ (by simp;exact fun e=>absurd e.symm h.ne);refine⟨(c 0).trans h.c0,(c 1).trans h.c1,(c 2).trans h.c2,fun q f=>⟨?_,by simpa using(h.row q f).2⟩,h.low.setCell (by have:=h.hM.1;have:=h.hb;show _<=M;omega) _,by simpa using h.hL,by simpa using h.hM,h.ne,h.hb,h.tyM.set _ _,h.tyL.set _ _⟩;by_cases e:q=p
 ·subst e
  rw[AI _ _ _ (by rw[(h.row q f).1];rfl)];simp[put]
 ·rw[sq _ _ _ _ (by simp),(h.row q f).1]
  simp[put,e]
theorem oQ {go:Nat->Nat->(Nat->Bool)->(Nat->Bool) × List (Nat × Nat)}{x:ah}{d:Nat}{s:Nat->Bool}{i m:Nat}(h:i<=m):(lks go x d s i).2 <+: (lks go x d s m).2:=by
 induction m with
 | zero =>
  obtain rfl:i=0:=by omega
  exact M2
 | succ k b =>
  by_cases e:i=k+1
  ·subst e;exact M2
  ·refine(b (by omega)).trans ?_
   rw[lks];split
   ·exact NL _ _
   ·exact M2
theorem Cq {QL:TypeId}(hT:QL≠4/\QL≠276)(QM:G)(n1 b off n cap L M l:Nat)(QP:List (Nat × Nat))(f:Nat->ah)(QO Jx:List (Nat × Nat)->G->Prop)(hA:fy f n)(hn:(n:Int)<=400)(hf:RowDeed QM b off n f)(hlk:∀ p,p<n->(f p).linksN<=200)
  (hJ:∀ s A C,QO s A->Itr 4 n1 A C->QO s C) (ph:∀ s A C,Jx s A->Itr 4 n1 A C->Jx s C)
  (hY:∀ m g (x:Nat × Nat) W,x.1<n->QO g W->g++[x] <+: QP->n1<=W.heap.size->YieldAt Fence.wide m Tryz.prog l #[.int I (x.1:Int),.int I (x.2:Int)] W fun e D =>
   (e=QF (.bool QD)/\QO (g++[x]) D/\Upd2 QL QM.heap.size n1 W D)∨(e=QF (.bool QB)/\Jx (g++[x]) D)) :
  ∀ (k p d:Nat) (s:Nat->Bool) (g:List (Nat × Nat)) (W:G) (O:Nat),p<k->p<n->d+p<=1000->LSt QM W n1 b off n cap L M l s->s p=QB->QO g W->g++(lst f k p d s).2 <+: QP ->
   CallsIn Fence.wide O Tryz.prog 189 #[.pointer (T (N L 0 Z)),.int I (p:Int),.int I (d:Int)] W fun e D =>(e=QF (.bool QD)/\QO (g++(lst f k p d s).2) D/\LSt QM D n1 b off n cap L M l (lst f k p d s).1)∨(e=QF (.bool QB)/\∃ q,q <+: (lst f k p d s).2/\Jx (g++q) D):=by
 intro k;induction k with
 | zero=>intro p d s g W O h;omega
 | succ k ih =>
  intro p d s g W O hpk H hdp hS hs ro hN;have HS:=ae hS;have DS:=ae ro;have HN:=ae hN;have Fb:=ae ih;have HY:=ae hY;have S:=ae hJ;have HJx:=ae ph;have HA:=ae hA;have HF:=ae hf;obtain⟨_,_,_,_,_,⟨a1,cap1,sm,q5⟩⟩:=hf.2 p H;have p5:=(hS.low.cell (p:=(N b (off+p*6+5) Z)) hf.1).trans sm;obtain⟨m,QK⟩:∃ m,m=(f p).linksN:=⟨_,rfl⟩
  have hm2:m<=200:=by rw[QK];exact hlk p H
  rw[<-QK] at p5 q5;have HL:=ae q5;have HM:=ae QK;have e0:=hS.c0;obtain⟨K,hK⟩:∃ K,K=lks (lst f k) (f p) d s:=⟨_,rfl⟩
  have QN:Hid (lst f (k+1) p d s=(put (K m).1 p,(K m).2++[(p,d)])):=by rw[hK,QK];rfl
  have n9:Hid (K 0=(s,[])):=by rw[hK];rfl
  have ur:Hid (∀ j,K (j+1)=if ((f p).links j).ask=QD/\(K j).1 ((f p).links j).at_.toNat=QB then ((lst f k ((f p).links j).at_.toNat (d+1) (K j).1).1,(K j).2++(lst f k ((f p).links j).at_.toNat (d+1) (K j).1).2) else K j):=fun j=>by rw[hK];rfl
  have DE:Hid (∀ i,i<=m->(K i).2 <+: (K m).2):=fun i hi=>by rw[hK];exact oQ hi
  clear hS ro hN ih hY hJ ph hA hf q5 QK hlk sm hK;refine callsIn_of_wp Tryz.func189 rfl trivial ?_ rfl;simp only[Tryz.ntmps189,JY,nD,GD,Nat.reduceAdd,Nat.reduceSub,KJ,KL,LE,KO,IN,JB];gi_wp2;clear e0 p5;gi_loopw [18] (fun i wr=>∃ j:Nat,j<=m/\i=.int I j/\Hid (LSt QM wr n1 b off n cap L M l (K j).1)/\Hid (QO (g++(K j).2) wr)) (fun i _=>m - (intOf i).toNat);case atStart=>exact⟨0,by omega,rfl,by rw[n9.out];exact HS,by rw[n9.out,ND];exact DS⟩
  case round =>
   obtain⟨j,hj,rfl,t,qr⟩:=hrel;by_cases CD:j<m
   ·obtain⟨lb,lo,rfl,bt⟩:=(HL.below t.low ly).resolve_left (by omega)
    obtain⟨d0,d1,d2,d3⟩:=bt.2 j CD;clear bt;have fd:=ur.out j;have ex:=HA.out p H j (by have:=HM.out;omega);generalize (f p).links j=x at d0 d1 d2 d3 fd ex;have aq:=ae fd;clear fd;have QR:=ae (t.below (br.alloc ly (Q #[.string x.name,.bool x.ask,.bool x.has,.int I x.at_] 129)));have J1:=ae (S _ _ _ qr (Itr.of_below ((q9 wr).alloc ly (Q #[.string x.name,.bool x.ask,.bool x.has,.int I x.at_] 129)) ly (by have:=t.hL;omega)));have e1:(wr.alloc (Q #[.string x.name,.bool x.ask,.bool x.has,.int I x.at_] 129)).cell? (N wr.heap.size 1 Z)=T (.bool x.ask):=by simp
    have e3:(wr.alloc (Q #[.string x.name,.bool x.ask,.bool x.has,.int I x.at_] 129)).cell? (N wr.heap.size 3 Z)=T (.int I x.at_):=by simp
    have mv:=ae ex;clear ex;gi_upto_region 4 with fail;clear d0 d1 d2 d3;generalize wr.alloc (Q #[.string x.name,.bool x.ask,.bool x.has,.int I x.at_] 129)=E at QR J1 e1 e3 ⊢;generalize wr.heap.size=X at e1 e3 ⊢;cases hask:x.ask with
    | false =>
     have o:K (j+1)=K j:=by rw[aq.out,cM (by rw[hask];simp)]
     have u:=ae o;clear o;rw[hask] at e1;have DQ:∀ f,Fence.wide.fn f=True:=fun _=>rfl;gi_quiet (fail);have R:=ae (QR.below (AT (q9 E) nq));have V:=ae (S _ _ _ J1 (Itr.of_below (AT (q9 E) nq) ly (by have:=QR.hL;omega)));gi_wp2;exact⟨⟨j+1,by omega,by go_num,by rw[u.out];exact R,by rw[u.out];exact V⟩,by simp[intOf];omega⟩
    | true =>
     obtain⟨q,hq⟩:∃ q:Nat,x.at_=(q:Int):=⟨x.at_.toNat,by have:=(mv hask).2;omega⟩
     have hqp:q<p:=by have:=(mv hask).1;rw[hq] at this;simpa using this
     rw[hq] at e3;rw[hask] at e1;have f1:=QR.c1;obtain⟨f2,_⟩:=QR.row q (by omega);have hq0:(0:Int)<=q:=by omega
     have hqn:(q:Int)<n:=by omega
     have DQ:∀ f,Fence.wide.fn f=True:=fun _=>rfl;cases hl:(K j).1 q with
     | true =>
      have o:K (j+1)=K j:=by rw[aq.out,cM (by rw[hq];simp[hl])]
      have u:=ae o;clear o;rw[hl] at f2;gi_quiet (fail);have R:=ae (QR.below (AT (q9 E) nq));have V:=ae (S _ _ _ J1 (Itr.of_below (AT (q9 E) nq) ly (by have:=QR.hL;omega)));gi_wp2;exact⟨⟨j+1,by omega,by go_num,by rw[u.out];exact R,by rw[u.out];exact V⟩,by simp[intOf];omega⟩
     | false =>
      have o:K (j+1)=((lst f k q (d+1) (K j).1).1,(K j).2++(lst f k q (d+1) (K j).1).2):=by rw[aq.out,gM ⟨hask,by rw[hq];simpa using hl⟩,hq];simp
      have u:=ae o;have la:=DE.out (j+1) (by omega);rw[o] at la;have th:=ae la;have ld:((d+1:Nat):Int)=(d:Int)+1:=by omega
      have HC:Hid (∀ QH O,LSt QM QH n1 b off n cap L M l (K j).1->QO (g++(K j).2) QH->CallsIn Fence.wide O Tryz.prog 189 #[.pointer (T (N L 0 Z)),.int I (q:Int),.int I ((d:Int)+1)] QH fun e D =>
        ∃ r:Bool,e=QF (.bool r)/\Hid ((r=QD/\QO (g++(K (j+1)).2) D/\LSt QM D n1 b off n cap L M l (K (j+1)).1)∨(r=QB/\∃ q,q <+: (K m).2++[(p,d)]/\Jx (g++q) D))):=by
       intro QH O h1 h2;have P:(g++(K j).2)++(lst f k q (d+1) (K j).1).2 <+: QP:=by have B:=HN.out;rw[QN.out] at B;obtain⟨z,hz⟩:=B;obtain⟨y,QJ⟩:=th.out;exact⟨y++[(p,d)]++z,by rw[<-hz];simp only[];rw[<-QJ];simp⟩
       have h:=Fb.out q (d+1) (K j).1 (g++(K j).2) QH O (by omega) (by omega) (by omega) h1 hl h2 P;rw[ld] at h;refine h.mono fun e D h=>?_;rcases h with ⟨he,hj,hs⟩ | ⟨he,q',E9,hx⟩
       ·exact⟨QD,he,.inl ⟨rfl,by rw[u.out,<-II];exact hj,by rw[u.out];exact hs⟩⟩
       ·refine⟨QB,he,.inr ⟨rfl,(K j).2++q',?_,by rw[<-II];exact hx⟩⟩
        obtain⟨z,hz⟩:=E9;obtain⟨y,QJ⟩:=th.out;exact⟨z++y++[(p,d)],by rw[<-QJ,<-hz];simp⟩
      have Bk:=ae (QR.below ((q9 E).drew));have Fa:=ae (S _ _ _ J1 (Itr.of_below (q9 E).drew ly (by have:=QR.hL;omega)));have hwr:IntKind.i64.wrap ((d:Int)+1)=(d:Int)+1:=by rw[kP];omega
      clear o la;rw[hl] at f2;gi_region_with ((try refine⟨fun h=>(by cases h),?_⟩);gi_at_call 189;refine(HC _ _ ?_ ?_).mono ?_;(first | exact Bk | exact QR);(first | exact Fa | exact J1);rintro e W3 ⟨r,rfl,H3⟩);all_goals
       cases r with
       | true =>have B:=H3.resolve_right (fun h=>by cases h.1);have S3:=ae B.2.2;have J3:=ae B.2.1;clear B H3;gi_wp2;exact⟨⟨j+1,by omega,by go_num,S3,J3⟩,by simp[intOf];omega⟩
       | false =>have B:=H3.resolve_left (fun h=>by cases h.1);have X3:=ae B.2;clear B H3;gi_wp2;go_ret;rw[QN.out];exact .inr ⟨rfl,X3⟩
   ·have e:m=j:=by omega
    subst e;have R:=ae (t.set H);have V:=ae (S _ _ _ qr (Itr.setCell wr (p:=(N M p Z)) t.hM.1 t.tyM (.bool QD)));have P:(g++(K m).2)++[(p,d)] <+: QP:=by have B:=HN.out;rw[QN.out] at B;simpa using B
    have At:=HY.out (O - 1) (g++(K m).2) (p,d) _ H V P (by have:=t.hL;simp;omega);obtain⟨fn,tmps,assign,body,QJ,hR⟩:=At;dsimp only at QJ;have HR:=ae hR;clear hR;have g1:=t.c1;obtain⟨g3,g4⟩:=t.row p H;have g2:=R.c2;have hp0:(0:Int)<=p:=by omega
    have hpn':(p:Int)<n:=by omega
    gi_wp2;refine⟨fun h=>(by cases h),HR.mono ?_⟩;rintro e W3 (⟨rfl,n8,n7⟩ | ⟨rfl,n6⟩)
    ·have J3:=ae n8
     have S3:=ae (R.upd hT n7);clear n8 n7;gi_wp2;go_ret;rw[QN.out];exact .inl ⟨rfl,by rw[<-II];exact J3,S3⟩
    ·have X3:=ae n6
     clear n6;gi_wp2;go_ret;rw[QN.out];exact .inr ⟨rfl,_,M2,by rw[<-II];exact X3⟩
attribute [local go_sem] Oper.semAt_some
theorem zK {F:Fence}(b:F.depth=Z){m i:Nat}{P:Program}{l:Nat}{f:FuncId}{tmps:Array QE}{assign body:Code}{w:G}{R:Ending->G->Prop}
  (h:RoundIn F m P l f tmps assign body w R):RoundIn F i P l f tmps assign body w R:=⟨h.1,fun c g _=>h.2 c g (fun d h=>by rw[b] at h;cases h)⟩
theorem zL {F:Fence}(b:F.depth=Z){m:Nat}(f:Nat){P:Program}{l:Nat}{args:Array QE}{W:G}{R:Ending->G->Prop}(h:YieldAt F m P l args W R):YieldAt F f P l args W R:=by obtain⟨fn,tmps,assign,body,g,hR⟩:=h;exact⟨fn,tmps,assign,body,g,zK b hR⟩
theorem zM:(Tryz.prog.info? 4).map (fun i=>(i.zero,i.size,i.bytes))=T (T (.bool QB),1,1):=by kernel_rfl
def bD (n:Nat):Array QE:=madeCells (Value.bool QB).cells n
theorem x8 (n:Nat)(hn:n<=1048576)(w:G):(Instr.makeSlice 212 (.int I (n:Int)) (.int I (n:Int))).run Tryz.prog w=.ok (Y (T (N w.heap.size 0 Z)) n n) (w.alloc (Q (bD n) 4)):=by obtain⟨i,hi,hz⟩:=J0.1 zM;simp only[IA] at hz;obtain⟨h1,h2,b⟩:=hz;have h:=run_make (P:=Tryz.prog) w 212 4 i _ Tryz.underlying212 hi h1 I I n n (by omega) (NP _) (by rw[b];omega) (by omega);rw[h2] at h;simpa[bD] using h
theorem sC (n q:Nat)(h:q<n):(bD n)[q]?=T (.bool QB):=by unfold bD madeCells;simp[Value.cells,h,Nat.mod_one]
theorem oR (W:G)(n q:Nat)(h:q<n):(W.alloc (Q (bD n) 4)).cell? (N W.heap.size q Z)=T (.bool QB)/\(W.alloc (Q (bD n) 4)).frozen? (N W.heap.size q Z)=QB:=by
 have e:=eT W (Q (bD n) 4);refine⟨?_,?_⟩
 ·rw[cell_of_row _ _ _ _ _ _ e]
  exact sC n q h
 ·unfold World.frozen?
  rw[e];simp
theorem zN {g W:G}{b off n cap l:Nat}(f:Below g.heap.size g W):LSt g ((W.alloc (Q (bD n) 4)).alloc (Q #[Y (T (N b off Z)) n cap,Y (T (N W.heap.size 0 Z)) n n,.func (.yield l) #[] #[]] 276)).drew W.heap.size b off n cap (W.heap.size+1) W.heap.size l (fun _=>QB):=by
 have hz:(W.alloc (Q (bD n) 4)).heap.size=W.heap.size+1:=by simp
 have D:Below (W.heap.size+1) (W.alloc (Q (bD n) 4)) ((W.alloc (Q (bD n) 4)).alloc (Q #[Y (T (N b off Z)) n cap,Y (T (N W.heap.size 0 Z)) n n,.func (.yield l) #[] #[]] 276)).drew:=(br.alloc (by omega) _).drew;refine⟨?_,?_,?_,fun q i=>?_,((f.alloc f.size _).alloc (by simp;have:=f.size;omega) _).drew,by simp,by simp;omega,by omega,f.size,?_,?_⟩
 ·simp
 ·simp
 ·simp
 ·exact⟨(D.cell (p:=(N W.heap.size q Z)) (eL _)).trans (oR W n q i).1,(D.frozen (p:=(N W.heap.size q Z)) (eL _)).trans (oR W n q i).2⟩
 ·exact(OfTy.new W _ _).eq (D.block _ (eL _))
 ·have h:=OfTy.new (W.alloc (Q (bD n) 4)) #[Y (T (N b off Z)) n cap,Y (T (N W.heap.size 0 Z)) n n,.func (.yield l) #[] #[]] 276
  rw[hz] at h;exact h.eq rfl
theorem zO {g W:G}{b off n cap l:Nat}(f:Below g.heap.size g W):LSt g ((W.alloc (Q #[Y (T (N b off Z)) n cap,Y (T (N (W.heap.size+1) 0 Z)) n n,.func (.yield l) #[] #[]] 276)).alloc (Q (bD n) 4)).drew W.heap.size b off n cap W.heap.size (W.heap.size+1) l (fun _=>QB):=by
 have hz:(W.alloc (Q #[Y (T (N b off Z)) n cap,Y (T (N (W.heap.size+1) 0 Z)) n n,.func (.yield l) #[] #[]] 276)).heap.size=W.heap.size+1:=by simp
 have D:Below (W.heap.size+1) (W.alloc (Q #[Y (T (N b off Z)) n cap,Y (T (N (W.heap.size+1) 0 Z)) n n,.func (.yield l) #[] #[]] 276)) ((W.alloc (Q #[Y (T (N b off Z)) n cap,Y (T (N (W.heap.size+1) 0 Z)) n n,.func (.yield l) #[] #[]] 276)).alloc (Q (bD n) 4)).drew:=(br.alloc (by omega) _).drew;refine⟨(D.cell (p:=(N W.heap.size 0 Z)) (eL _)).trans (by simp),(D.cell (p:=(N W.heap.size 1 Z)) (eL _)).trans (by simp),(D.cell (p:=(N W.heap.size 2 Z)) (eL _)).trans (by simp),fun q i=>?_,((f.alloc f.size _).alloc (by simp;have:=f.size;omega) _).drew,by simp;omega,by simp,by omega,f.size,?_,?_⟩
 ·have h:=oR (W.alloc (Q #[Y (T (N b off Z)) n cap,Y (T (N (W.heap.size+1) 0 Z)) n n,.func (.yield l) #[] #[]] 276)) n q i
  rw[hz] at h;exact h
 ·have h:=OfTy.new (W.alloc (Q #[Y (T (N b off Z)) n cap,Y (T (N (W.heap.size+1) 0 Z)) n n,.func (.yield l) #[] #[]] 276)) (bD n) 4
  rw[hz] at h;exact h.eq rfl
 ·exact(OfTy.new W _ _).eq (D.block _ (eL _))
theorem oS (v:QE)(w:G)(b:Nat):CallsIn Fence.wide b Tryz.prog 165 #[.agg #[v]] w fun e f=>e=QF (.func (.func 188) #[] #[.pointer (T (N w.heap.size 0 Z))])/\f=w.alloc (Q #[v] 25):=by refine callsIn_of_wp Tryz.func165 rfl trivial ?_ rfl;simp only[Tryz.ntmps165,JY,nD,GD,Nat.reduceAdd,Nat.reduceSub,KJ,KL,LE,KO,IN,JB];gi_wp2;go_ret;exact⟨rfl,rfl⟩
theorem sD {QL:TypeId}(hT:QL≠4/\QL≠276)(s:G)(b off n cap u B:Nat)(f:Nat->ah)(w:G)(hA:fy f n)(hn1:1<=n)(hn:(n:Int)<=400)(V:RowDeed s b off n f)(hlk:∀ p,p<n->(f p).linksN<=200)(j:Below s.heap.size s w)(QP:w.cell? (N u 0 Z)=T (Y (T (N b off Z)) n cap))(z:u<w.heap.size):SeqT2 QL 4 Fence.wide B Tryz.prog 188 #[.pointer (T (N u 0 Z))] (fun x:Nat × Nat=>#[Value.int I (x.1:Int),Value.int I (x.2:Int)]) (fun g x=>x.1<n/\g++[x] <+: aB f n) s.heap.size (fun o=>o=aB f n) (fun g=>g <+: aB f n) w:=by
 intro l QO S W D hJ H QH C;have X:=Cq hT s W.heap.size b off n cap;have K:=ae X;clear X;have hB:=(D.cell (p:=(N u 0 Z)) z).trans QP;have QK:=fun w=>x8 n (by omega) w;have hwb:IntKind.i64.wrap ((n:Int) - 1)=(n:Int) - 1:=by rw[kP];omega
 have O:=ae hJ;have E:=ae H;have HY:=ae QH;have H0:=ae C;have HA:=ae hA;have HF:=ae V;have QN:=ae hlk;have i:=ae (j.trans (D.mono j.size));have aq:u<W.heap.size:=lj z D.size;clear hJ H QH C hA V hlk j D QP z;refine callsIn_of_wp Tryz.func188 rfl trivial ?_ rfl;simp only[Tryz.ntmps188,JY,nD,GD,Nat.reduceAdd,Nat.reduceSub,KJ,KL,LE,KO,IN,JB];have QR:∀ L M A,LSt s A W.heap.size b off n cap L M l (fun _=>QB)->Below W.heap.size W A->CallsIn Fence.wide (B - 1) Tryz.prog 189 #[.pointer (T (N L 0 Z)),.int I ((n:Int) - 1),.int I 0] A fun e t =>
   ∃ r:Bool,e=QF (.bool r)/\Hid ((∃ o,o=aB f n/\QO o t)∨(∃ g,g <+: aB f n/\S g t)):=by
  intro L M A QM bt;have h:=K.out L M l (aB f n) f QO S HA hn HF QN O E (fun m g x W1 C h1 h2 h3=>zL rfl m (HY g x W1 ⟨C,h2⟩ h1 h3)) n (n - 1) 0 (fun _=>QB) [] A (B - 1) (by omega) (by omega) (by omega) QM rfl (O _ _ _ H0 (Itr.of_below bt ly  ly)) (by simp[aB]);rw[show((n - 1:Nat):Int)=(n:Int) - 1 by omega] at h;refine h.mono fun e t h=>?_;rcases h with ⟨P,hj,_⟩ | ⟨P,q,hq,hx⟩
  ·exact⟨QD,P,.inl ⟨_,rfl,by simpa[aB] using hj⟩⟩
  ·exact⟨QB,P,.inr ⟨q,hq,by simpa using hx⟩⟩
 have y:=ae QR;have D1:=ae (((q9 W).alloc ly (Q (bD n) 4)).alloc (by simp) (Q #[Y (T (N b off Z)) n cap,Y (T (N W.heap.size 0 Z)) n n,.func (.yield l) #[] #[]] 276)).drew;have QJ:=ae (((q9 W).alloc ly (Q #[Y (T (N b off Z)) n cap,Y (T (N (W.heap.size+1) 0 Z)) n n,.func (.yield l) #[] #[]] 276)).alloc (by simp) (Q (bD n) 4)).drew;have hfw:∀ f,Fence.wide.fn f=True:=fun _=>rfl;clear QR K O E HY H0 HA HF QN;gi_upto_region 0 with fail;gi_cut [3] from 4 (fun s3 wx=>∃ L,s3=.pointer (T (N L 0 Z))/\Hid (∃ M,LSt s wx W.heap.size b off n cap L M l (fun _=>QB))/\Hid (Below W.heap.size W wx));case first =>
  have hsf:=fun(w:G) (a:Addr) (m:Mode)=>NJ Tryz.prog w a (.func (.yield l) #[] #[]) m rfl;gi_region_with fail;all_goals
   gi_wp2_with fail;gi_meet;first
    | exact⟨W.heap.size+1,rfl,⟨W.heap.size,zN i⟩,D1⟩
    | exact⟨W.heap.size,rfl,⟨W.heap.size+1,zO i⟩,QJ⟩
 case rest =>
 obtain⟨L,rfl,HS,R⟩:=hcut;have hB1:=(R.cell (p:=(N u 0 Z)) aq).trans hB;have HC:Hid (CallsIn Fence.wide (B - 1) Tryz.prog 189 #[.pointer (T (N L 0 Z)),.int I ((n:Int) - 1),.int I 0] wc fun e t=>∃ r:Bool,e=QF (.bool r)/\Hid ((∃ o,o=aB f n/\QO o t)∨(∃ g,g <+: aB f n/\S g t))):=by obtain⟨M,QM⟩:=HS.out;exact y L M wc QM R
 clear y HS QK R i D1 QJ hB;gi_wp2_with ((try refine⟨fun h=>(by cases h),?_⟩);gi_at_call 189;refine HC.mono ?_;rintro e W3 ⟨r,rfl,H3⟩);go_end0;exact⟨⟨_,rfl⟩,H3⟩
theorem na (g:G)(b off n cap i q:Nat)(f:Nat->ah)(w:G)(t:fy f n)(hn1:1<=n)(hn:(n:Int)<=400)(r:RowDeed g b off n f)(hlk:∀ p,p<n->(f p).linksN<=200)(l:Below g.heap.size g w)(o:w.cell? (N i 0 Z)=T (Y (T (N b off Z)) n cap))(m:i<w.heap.size):zu Fence.wide q Tryz.prog 188 #[.pointer (T (N i 0 Z))] (fun x:Nat × Nat=>#[Value.int I (x.1:Int),Value.int I (x.2:Int)]) (fun x=>x.1<n) g.heap.size (fun s=>s=aB f n) (fun j=>j <+: aB f n) (aB f n).length w :=
 (sD (QL:=46) ⟨by decide,by decide⟩ g b off n cap i q f w t hn1 hn r hlk l o m).plain fun j x h=>⟨h.1,by have:=h.2.length_le;simp at this;omega⟩
attribute [local go_sem] Oper.semAt_some
theorem oT {i:Nat}{b:List (Nat × Nat)}{x:Nat × Nat}(h:bw i b=-1):bw i (b++[x])=if x.1=i+b.length then -1 else ((i+b.length:Nat):Int):=by
 induction b generalizing i with
 | nil=>simp[bw]
 | cons y f g =>
  simp only[bw,JB] at h ⊢;split at h
  ·rename_i e
   rw[gM e,g h];simp only[nD];have:i+1+f.length=i+(f.length+1):=by omega
   rw[this]
  ·omega
theorem sE {i:Nat}{b f:List (Nat × Nat)}(j:b <+: f)(h:bw i b≠-1):bw i f=bw i b:=by
 induction b generalizing i f with
 | nil=>exact absurd rfl h
 | cons y ys g =>
  obtain⟨t,rfl⟩:=j;simp only[bw,JB] at h ⊢;split
  ·rename_i e
   rw[gM e] at h;exact g (NL _ _) h
  ·rfl
theorem um {f:Nat->ah}{b:List (Nat × Nat)}{x:Nat × Nat}(h:aQ f b=-1):aQ f (b++[x])=if (f x.1).kind=3/\60<=x.2 then (x.1:Int) else -1:=by
 induction b with
 | nil=>simp[aQ]
 | cons y ys g =>
  simp only[aQ,JB] at h ⊢;split at h
  ·omega
  ·rename_i e
   rw[cM e,g h]
theorem rF {f:Nat->ah}{b g:List (Nat × Nat)}(j:b <+: g)(h:aQ f b≠-1):aQ f g=aQ f b:=by
 induction b generalizing g with
 | nil=>exact absurd rfl h
 | cons y ys i =>
  obtain⟨t,rfl⟩:=j;simp only[aQ,JB] at h ⊢;split
  ·rfl
  ·rename_i e
   rw[cM e] at h;exact i (NL _ _) h
structure EF (W:G)(h:Nat)(v:QE):Prop where
 size:W.heap.size=h+4
 r:W.cell? (N (h+1) 0 Z)=T (.int I 0)/\W.frozen? (N (h+1) 0 Z)=QB
 t:W.cell? (N (h+1+1) 0 Z)=T (.int I 0)/\W.frozen? (N (h+1+1) 0 Z)=QB
 a:W.cell? (N (h+1+1+1) 0 Z)=T v
 a0:W.cell? (N h 0 Z)=T v
theorem wI (w:G)(v:QE)(t u:TypeId):EF ((((w.alloc (Q #[v] t)).alloc (Q #[.int I 0] u)).alloc (Q #[.int I 0] u)).alloc (Q #[v] t)) w.heap.size v:=by
 have b:(w.alloc (Q #[v] t)).heap.size=w.heap.size+1:=by simp
 have f:((w.alloc (Q #[v] t)).alloc (Q #[.int I 0] u)).heap.size=w.heap.size+1+1:=by simp
 have g:(((w.alloc (Q #[v] t)).alloc (Q #[.int I 0] u)).alloc (Q #[.int I 0] u)).heap.size=w.heap.size+1+1+1:=by simp
 have j:Below (w.heap.size+1) (w.alloc (Q #[v] t)) ((((w.alloc (Q #[v] t)).alloc (Q #[.int I 0] u)).alloc (Q #[.int I 0] u)).alloc (Q #[v] t)):=((br.alloc (by omega) _).alloc (by omega) _).alloc (by omega) _;have h:Below (w.heap.size+1+1) ((w.alloc (Q #[v] t)).alloc (Q #[.int I 0] u)) ((((w.alloc (Q #[v] t)).alloc (Q #[.int I 0] u)).alloc (Q #[.int I 0] u)).alloc (Q #[v] t)):=(br.alloc (by omega) _).alloc (by omega) _;have i:Below (w.heap.size+1+1+1) (((w.alloc (Q #[v] t)).alloc (Q #[.int I 0] u)).alloc (Q #[.int I 0] u)) ((((w.alloc (Q #[v] t)).alloc (Q #[.int I 0] u)).alloc (Q #[.int I 0] u)).alloc (Q #[v] t)):=br.alloc (by omega) _;refine⟨by simp,⟨?_,?_⟩,⟨?_,?_⟩,?_,(j.cell (p:=(N w.heap.size 0 Z)) (eL _)).trans (by simp)⟩
 ·refine(h.cell (p:=(N (w.heap.size+1) 0 Z)) (eL _)).trans ?_
  rw[<-b];clear j h i b f g;generalize w.alloc (Q #[v] t)=W;simp
 ·refine(h.frozen (p:=(N (w.heap.size+1) 0 Z)) (eL _)).trans ?_
  rw[<-b];clear j h i b f g;generalize w.alloc (Q #[v] t)=W;simp
 ·refine(i.cell (p:=(N (w.heap.size+1+1) 0 Z)) (eL _)).trans ?_
  rw[<-f];clear j h i b f g;generalize (w.alloc (Q #[v] t)).alloc (Q #[.int I 0] u)=W;simp
 ·refine(i.frozen (p:=(N (w.heap.size+1+1) 0 Z)) (eL _)).trans ?_
  rw[<-f];clear j h i b f g;generalize (w.alloc (Q #[v] t)).alloc (Q #[.int I 0] u)=W;simp
 ·rw[<-g]
  clear j h i b f g;generalize ((w.alloc (Q #[v] t)).alloc (Q #[.int I 0] u)).alloc (Q #[.int I 0] u)=W;simp
theorem rG (b off n cap:Nat)(f:Nat->ah)(w:G)(V:fy f n)(hn1:1<=n)(hn:(n:Int)<=400)(QP:RowDeed w b off n f)(hlk:∀ p,p<n->(f p).linksN<=200)(hlen:(aB f n).length<=400):Calls Tryz.prog 134 #[.agg #[Y (T (N b off Z)) n cap]] w fun e w'=>e=QF (.int I (bw 0 (aB f n)))/\Below w.heap.size w w':=by
 refine(callsIn_wide (n:=3)).1 ?_;have HF:=ae QP;have HA:=ae V;have X:=ae hlk;clear QP V hlk;have QM:=((((q9 w).alloc ly (Q #[Y (T (N b off Z)) n cap] 25)).alloc (by simp) (Q #[.int I 0] 3)).alloc (by simp;omega) (Q #[.int I 0] 3)).alloc (by simp;omega) (Q #[Y (T (N b off Z)) n cap] 25);have QK:=ae QM;clear QM;have H:=ae (wI w (Y (T (N b off Z)) n cap) 25 3);refine callsIn_of_wp_marks Tryz.func134 rfl trivial ?_ rfl;simp only[Tryz.ntmps134,JY,nD,GD,Nat.reduceAdd,Nat.reduceSub,KJ,KL,LE,KO,IN,JB];gi_wp2_with (refine⟨trivial,?_⟩;gi_at_call 165;refine(oS _ _ _).mono ?_;rintro e w' ⟨rfl,rfl⟩);generalize (((w.alloc (Q #[Y (T (N b off Z)) n cap] 25)).alloc (Q #[.int I 0] 3)).alloc (Q #[.int I 0] 3)).alloc (Q #[Y (T (N b off Z)) n cap] 25)=W at QK H ⊢;have hsz:=H.size;obtain⟨M,QN⟩:=H.r;obtain⟨L,O⟩:=H.t
 refine iV (F:=Fence.wide) rfl (by omega) (gf:=188) (lb:=#[.pointer (T (N (w.heap.size+1+1+1) 0 Z))]) rfl trivial (enters_of Tryz.func188 (by kernel_rfl) rfl) (base:=w.heap.size) (by omega)
  (na w b off n cap (w.heap.size+1+1+1) (3 - 1) f W HA hn1 hn HF X QK H.a (by omega)) br (fun _=>rfl)
  (fun g m=>m.cell? (N (w.heap.size+1+1) 0 Z)=T (.int I (g.length:Int))/\m.frozen? (N (w.heap.size+1+1) 0 Z)=QB/\m.cell? (N (w.heap.size+1) 0 Z)=T (.int I 0)/\m.frozen? (N (w.heap.size+1) 0 Z)=QB/\Hid (bw 0 g=-1)/\Hid (Below w.heap.size w m))
  (fun c g m=>c=.ret/\m.cell? (N (w.heap.size+1) 0 Z)=T (.int I (bw 0 g))/\Hid (bw 0 g≠-1)/\Hid (Below w.heap.size w m))
  (fun s A B h j=>⟨(j.cell (p:=(N (w.heap.size+1+1) 0 Z)) (by show w.heap.size+1+1<W.heap.size;omega)).trans h.1,(j.frozen (p:=(N (w.heap.size+1+1) 0 Z)) (by show w.heap.size+1+1<W.heap.size;omega)).trans h.2.1,(j.cell (p:=(N (w.heap.size+1) 0 Z)) (by show w.heap.size+1<W.heap.size;omega)).trans h.2.2.1,(j.frozen (p:=(N (w.heap.size+1) 0 Z)) (by show w.heap.size+1<W.heap.size;omega)).trans h.2.2.2.1,h.2.2.2.2.1,h.2.2.2.2.2.trans (j.mono (by omega))⟩)
  (fun c s A B h j=>⟨h.1,(j.cell (p:=(N (w.heap.size+1) 0 Z)) (by show w.heap.size+1<W.heap.size;omega)).trans h.2.1,h.2.2.1,h.2.2.2.trans (j.mono (by omega))⟩)
  ⟨L,O,M,QN,rfl,QK⟩
  (fun x=>{ tmps:=#[.agg #[Y (T (N b off Z)) n cap],.pointer (T (N w.heap.size 0 Z)),.pointer (T (N (w.heap.size+1) 0 Z)),.pointer (T (N (w.heap.size+1+1) 0 Z)),.int I (x.1:Int),.agg #[Y (T (N b off Z)) n cap],.func (.func 188) #[] #[.pointer (T (N (w.heap.size+1+1+1) 0 Z))],.int I (x.1:Int),.int I (x.2:Int),undef,undef,undef,undef,undef,undef],defers:=[] }) ?assign ?body ?done ?stop
 case assign =>intro l x W K y;gi_wp2;exact y
 case body =>
  rintro l g x i _ ⟨hc,QP,u,QO,z,q⟩ hlt hz;clear M QN L O;have hpl:(g.length:Int)<=1048576:=by omega
  by_cases hx:(x.1:Int)=(g.length:Int)
  ·have C:bw 0 (g++[x])=-1:=by rw[oT z.out,gM (by omega)]
   have o:=ae C;clear C;have S:=ae (Upd.setCell (P:=fun k=>w.heap.size<=k/\k<W.heap.size) i (p:=(N (w.heap.size+1+1) 0 Z)) ⟨by show _<=_+1+1;omega,by show _+1+1<_;omega⟩ (.int I ((g.length:Int)+1)));have E:=ae (q.setCell (p:=(N (w.heap.size+1+1) 0 Z)) (by show _<=_+1+1;omega) (.int I ((g.length:Int)+1)));have c1:(i.setCell (N (w.heap.size+1+1) 0 Z) (.int I ((g.length:Int)+1))).cell? (N (w.heap.size+1+1) 0 Z)=T (.int I ((g++[x]).length:Int)):=by rw[AI _ _ _ (by rw[hc];rfl)];simp
   have c2:(i.setCell (N (w.heap.size+1+1) 0 Z) (.int I ((g.length:Int)+1))).cell? (N (w.heap.size+1) 0 Z)=T (.int I 0):=by rw[sq _ _ _ _ (by simp)];exact u
   have QR:=ae c1;have C2:=ae c2;clear c1 c2;gi_wp2;exact⟨S,QR,by simpa using QP,C2,by simpa using QO,o,E⟩
  ·have C:bw 0 (g++[x])=(g.length:Int):=by rw[oT z.out,cM (by omega)];simp
   have o:=ae C;clear C;have S:=ae (Upd.setCell (P:=fun k=>w.heap.size<=k/\k<W.heap.size) i (p:=(N (w.heap.size+1) 0 Z)) ⟨by show _<=_+1;omega,by show _+1<_;omega⟩ (.int I (g.length:Int)));have E:=ae (q.setCell (p:=(N (w.heap.size+1) 0 Z)) (by show _<=_+1;omega) (.int I (g.length:Int)));have QR:=ae (AI i (N (w.heap.size+1) 0 Z) (.int I (g.length:Int)) (by rw[u];rfl));gi_wp2;exact⟨S,rfl,by rw[o.out];exact QR,by show _≠_;rw[o.out];omega,E⟩
 case done =>rintro QH ys i R rfl ⟨_,_,u,QO,z,q⟩ y;have QJ:=ae ((KeepsOthers.setCell i (N (w.heap.size+1) 0 Z) (.int I (-1))).same QH _ y rfl);have E:=ae (q.setCell (p:=(N (w.heap.size+1) 0 Z)) (by show _<=_+1;omega) (.int I (-1)));have QR:=ae (AI i (N (w.heap.size+1) 0 Z) (.int I (-1)) (by rw[u];rfl));gi_wp2;refine⟨by simp,.inl ⟨_,_,rfl,run_takeDeferred QJ,?_⟩⟩;have D:=dC (n:=W.heap.size) (i.setCell (N (w.heap.size+1) 0 Z) (.int I (-1))) R (BO.1 QJ).1 (.deferred Z);have c:=(D.cell (p:=(N (w.heap.size+1) 0 Z)) (by show w.heap.size+1<W.heap.size;omega)).trans QR;exact⟨.int I (-1),by simp[results,Tryz.results134,go_sem,c],by rw[z.out],E.trans (D.mono (by omega))⟩
 case stop =>rintro QH c g i R QL ⟨rfl,u,z,q⟩ y;gi_wp2;refine⟨by simp,.inl ⟨_,_,rfl,run_takeDeferred y,?_⟩⟩;have D:=dC (n:=W.heap.size) i R (BO.1 y).1 (.deferred Z);have c:=(D.cell (p:=(N (w.heap.size+1) 0 Z)) (by show w.heap.size+1<W.heap.size;omega)).trans u;exact⟨.int I (bw 0 g),by simp[results,Tryz.results134,go_sem,c],by rw[sE QL z.out],q.trans (D.mono (by omega))⟩
structure EI (W:G)(h:Nat)(v:QE):Prop where
 size:W.heap.size=h+3
 r:W.cell? (N (h+1) 0 Z)=T (.int I 0)/\W.frozen? (N (h+1) 0 Z)=QB
 a:W.cell? (N (h+1+1) 0 Z)=T v
 a0:W.cell? (N h 0 Z)=T v
theorem wJ (w:G)(v:QE)(t u:TypeId):EI (((w.alloc (Q #[v] t)).alloc (Q #[.int I 0] u)).alloc (Q #[v] t)) w.heap.size v:=by
 have b:(w.alloc (Q #[v] t)).heap.size=w.heap.size+1:=by simp
 have f:((w.alloc (Q #[v] t)).alloc (Q #[.int I 0] u)).heap.size=w.heap.size+1+1:=by simp
 have h:Below (w.heap.size+1) (w.alloc (Q #[v] t)) (((w.alloc (Q #[v] t)).alloc (Q #[.int I 0] u)).alloc (Q #[v] t)):=(br.alloc (by omega) _).alloc (by omega) _;have g:Below (w.heap.size+1+1) ((w.alloc (Q #[v] t)).alloc (Q #[.int I 0] u)) (((w.alloc (Q #[v] t)).alloc (Q #[.int I 0] u)).alloc (Q #[v] t)):=br.alloc (by omega) _;refine⟨by simp,⟨?_,?_⟩,?_,(h.cell (p:=(N w.heap.size 0 Z)) (eL _)).trans (by simp)⟩
 ·refine(g.cell (p:=(N (w.heap.size+1) 0 Z)) (eL _)).trans ?_
  rw[<-b];clear h g b f;generalize w.alloc (Q #[v] t)=W;simp
 ·refine(g.frozen (p:=(N (w.heap.size+1) 0 Z)) (eL _)).trans ?_
  rw[<-b];clear h g b f;generalize w.alloc (Q #[v] t)=W;simp
 ·rw[<-f]
  clear h g b f;generalize (w.alloc (Q #[v] t)).alloc (Q #[.int I 0] u)=W;simp
theorem un (b off n cap:Nat)(f:Nat->ah)(w:G)(R:fy f n)(hn1:1<=n)(hn:(n:Int)<=400)(S:RowDeed w b off n f)(hlk:∀ p,p<n->(f p).linksN<=200):Calls Tryz.prog 135 #[.agg #[Y (T (N b off Z)) n cap]] w fun e w'=>e=QF (.int I (aQ f (aB f n)))/\Below w.heap.size w w':=by
 refine(callsIn_wide (n:=3)).1 ?_;have QL:=ae S;have HA:=ae R;have V:=ae hlk;clear S R hlk;have H:=(((q9 w).alloc ly (Q #[Y (T (N b off Z)) n cap] 25)).alloc (by simp) (Q #[.int I 0] 3)).alloc (by simp;omega) (Q #[Y (T (N b off Z)) n cap] 25);have O:=ae H;clear H;have C:=ae (wJ w (Y (T (N b off Z)) n cap) 25 3);refine callsIn_of_wp_marks Tryz.func135 rfl trivial ?_ rfl;simp only[Tryz.ntmps135,JY,nD,GD,Nat.reduceAdd,Nat.reduceSub,KJ,KL,LE,KO,IN,JB];gi_wp2_with (refine⟨trivial,?_⟩;gi_at_call 165;refine(oS _ _ _).mono ?_;rintro e w' ⟨rfl,rfl⟩);generalize ((w.alloc (Q #[Y (T (N b off Z)) n cap] 25)).alloc (Q #[.int I 0] 3)).alloc (Q #[Y (T (N b off Z)) n cap] 25)=W at O C ⊢;have hsz:=C.size;obtain⟨E,QR⟩:=C.r;have QM:=C.a0
 refine iV (F:=Fence.wide) rfl (by omega) (gf:=188) (lb:=#[.pointer (T (N (w.heap.size+1+1) 0 Z))]) rfl trivial (enters_of Tryz.func188 (by kernel_rfl) rfl) (base:=w.heap.size) (by omega)
  (na w b off n cap (w.heap.size+1+1) (3 - 1) f W HA hn1 hn QL V O C.a (by omega)) br (fun _=>rfl)
  (fun g t=>t.cell? (N w.heap.size 0 Z)=T (Y (T (N b off Z)) n cap)/\t.cell? (N (w.heap.size+1) 0 Z)=T (.int I 0)/\t.frozen? (N (w.heap.size+1) 0 Z)=QB/\Hid (aQ f g=-1)/\Hid (Below w.heap.size w t))
  (fun c g t=>c=.ret/\t.cell? (N (w.heap.size+1) 0 Z)=T (.int I (aQ f g))/\Hid (aQ f g≠-1)/\Hid (Below w.heap.size w t))
  (fun s A B h o=>⟨(o.cell (p:=(N w.heap.size 0 Z)) (by show w.heap.size<W.heap.size;omega)).trans h.1,(o.cell (p:=(N (w.heap.size+1) 0 Z)) (by show w.heap.size+1<W.heap.size;omega)).trans h.2.1,(o.frozen (p:=(N (w.heap.size+1) 0 Z)) (by show w.heap.size+1<W.heap.size;omega)).trans h.2.2.1,h.2.2.2.1,h.2.2.2.2.trans (o.mono (by omega))⟩)
  (fun c s A B h o=>⟨h.1,(o.cell (p:=(N (w.heap.size+1) 0 Z)) (by show w.heap.size+1<W.heap.size;omega)).trans h.2.1,h.2.2.1,h.2.2.2.trans (o.mono (by omega))⟩)
  ⟨QM,E,QR,rfl,O⟩
  (fun x=>{ tmps:=#[.agg #[Y (T (N b off Z)) n cap],.pointer (T (N w.heap.size 0 Z)),.pointer (T (N (w.heap.size+1) 0 Z)),.int I (x.1:Int),.int I (x.2:Int),.agg #[Y (T (N b off Z)) n cap],.func (.func 188) #[] #[.pointer (T (N (w.heap.size+1+1) 0 Z))],.int I (x.1:Int),.int I (x.2:Int),undef,undef,undef,undef,undef,undef,undef,undef,undef,undef,undef,undef],defers:=[] }) ?assign ?body ?done ?stop
 case assign =>intro l x W K u;gi_wp2;exact u
 case body =>
  rintro l g x m QK ⟨QJ,q,y,D,j⟩ hlt hz;clear E QR QM;obtain⟨_,p1,_⟩:=(QL.below j ly).2 x.1 QK;have hx0:(0:Int)<=(x.1:Int):=by omega
  have hxn:(x.1:Int)<n:=by omega
  have M:=ae (um (x:=x) D);have U1:=ae (Upd.setCell (P:=fun k=>w.heap.size<=k/\k<W.heap.size) m (p:=(N (w.heap.size+1) 0 Z)) ⟨by show _<=_+1;omega,by show _+1<_;omega⟩ (.int I (x.1:Int)));have QO:=ae (j.setCell (p:=(N (w.heap.size+1) 0 Z)) (by show _<=_+1;omega) (.int I (x.1:Int)));have L:=ae (AI m (N (w.heap.size+1) 0 Z) (.int I (x.1:Int)) (by rw[q];rfl));cases h3:((f x.1).kind == 3) with
  | false =>
   have i:Hid (aQ f (g++[x])=-1):=by show _=_;rw[M.out,cM (by intro h;rw[h.1] at h3;simp at h3)]
   gi_wp2;exact⟨Upd.refl _ _,QJ,q,y,i,j⟩
  | true =>
   by_cases h6:(60:Int)<=(x.2:Int)
   ·have i:Hid (aQ f (g++[x])=(x.1:Int)):=by show _=_;rw[M.out,gM ⟨by simpa using h3,by omega⟩]
    gi_wp2;exact⟨U1,rfl,by rw[i.out];exact L,by show _≠_;rw[i.out];omega,QO⟩
   ·have i:Hid (aQ f (g++[x])=-1):=by show _=_;rw[M.out,cM (by intro h;omega)]
    gi_wp2;exact⟨Upd.refl _ _,QJ,q,y,i,j⟩
 case done =>rintro X ys m QP rfl ⟨_,q,y,D,j⟩ u;have QH:=ae ((KeepsOthers.setCell m (N (w.heap.size+1) 0 Z) (.int I (-1))).same X _ u rfl);have QO:=ae (j.setCell (p:=(N (w.heap.size+1) 0 Z)) (by show _<=_+1;omega) (.int I (-1)));have L:=ae (AI m (N (w.heap.size+1) 0 Z) (.int I (-1)) (by rw[q];rfl));gi_wp2;refine⟨by simp,.inl ⟨_,_,rfl,run_takeDeferred QH,?_⟩⟩;have z:=dC (n:=W.heap.size) (m.setCell (N (w.heap.size+1) 0 Z) (.int I (-1))) QP (BO.1 QH).1 (.deferred Z);have c:=(z.cell (p:=(N (w.heap.size+1) 0 Z)) (by show w.heap.size+1<W.heap.size;omega)).trans L;exact⟨.int I (-1),by simp[results,Tryz.results135,go_sem,c],by rw[D.out],QO.trans (z.mono (by omega))⟩
 case stop =>rintro X c g m QP QN ⟨rfl,q,D,j⟩ u;gi_wp2;refine⟨by simp,.inl ⟨_,_,rfl,run_takeDeferred u,?_⟩⟩;have z:=dC (n:=W.heap.size) m QP (BO.1 u).1 (.deferred Z);have c:=(z.cell (p:=(N (w.heap.size+1) 0 Z)) (by show w.heap.size+1<W.heap.size;omega)).trans q;exact⟨.int I (aQ f g),by simp[results,Tryz.results135,go_sem,c],by rw[rF QN D.out],j.trans (z.mono (by omega))⟩
end Go.Proofs.YtamacmnikdejeaaGreatDoor.Vp
namespace Go.Proofs.YtamacmnikdejeaaGreatDoor.Vp
open RowKit
theorem oU (g:Nat->Bool)(n:Nat):aF g n=-1∨0<=aF g n:=by
 induction n with
 | zero=>exact .inl rfl
 | succ k b =>
  rw[aF];split
  ·split
   ·exact .inl rfl
   ·exact .inr (by omega)
  ·exact b
theorem zP (i:Nat)(b:List (Nat × Nat)):bw i b=-1∨0<=bw i b:=by
 induction b generalizing i with
 | nil=>exact .inl rfl
 | cons x b f =>
  rw[bw];split
  ·exact f _
  ·exact .inr (by omega)
theorem qF (f:Nat->ah)(b:List (Nat × Nat)):aQ f b=-1∨0<=aQ f b:=by
 induction b with
 | nil=>exact .inl rfl
 | cons x b g =>
  rw[aQ];split
  ·exact .inr (by omega)
  ·exact g
theorem nR {f:Nat->ah}{n:Nat}(h:aF (aW f) n=-1):∀ p,p<n->(f p).linksN<=200:=by
 intro p b;have h1:=dZ h p b;simp only[aW,j4,kindOk] at h1;obtain⟨_,h2⟩:=h1;split at h2
 ·simp[aS] at h2
  omega
 ·split at h2
  ·simp[aS] at h2
   omega
  ·split at h2
   ·simp only[bQ,j4,j5] at h2
    omega
   ·cases h2
theorem zQ {f:Nat->ah}{n:Nat}(h:aF (aW f) n=-1):∀ p,p<n->(f p).name.size<=maxLen:=by intro p b;have h1:=dZ h p b;simp only[aW,au,j4,j5] at h1;unfold maxLen;omega
theorem jN {f:Nat->ah}{n:Nat}(g:fy f n)(hn:1<=n):(aB f n).length<=n:=by
 have h:=(pH g n (n - 1) 0 (fun _=>QB) (by omega) (by omega) rfl).num;have h2:=DK (lst f n (n - 1) 0 (fun _=>QB)).1 n;have b:∀ k,cnt (fun _=>QB) k=0:=by
  intro k;induction k with
  | zero=>rfl
  | succ j i=>rw[cnt,i];rfl
 rw[b] at h;unfold aB;omega
structure EJ (w:G)(b:Nat)(v0 v1 v2 v3:QE):Prop where
 lt:b<w.heap.size
 c0:w.cell? (N b 0 Z)=T v0
 c1:w.cell? (N b 1 Z)=T v1
 c2:w.cell? (N b 2 Z)=T v2
 c3:w.cell? (N b 3 Z)=T v3
theorem Ct (w:G)(f g h b:QE)(t:TypeId):EJ (w.alloc (Q #[f,g,h,b] t)) w.heap.size f g h b:=⟨by simp,by simp,by simp,by simp,by simp⟩
theorem uo (a:Option Addr)(n cap:Nat)(f:Nat->ah)(w:G)(hn:(n:Int)<=1048576)(V:SlDeed w a n f)(P:(n:Int)<=cap)(QO:∀ i,i<n->dJ (f i))(hT:Tab w):Calls Tryz.prog 86 #[.agg #[Y a n cap]] w fun e w'=>e=QF (.tuple #[.int I (cH f n).1,.int I (cH f n).2])/\Below w.heap.size w w':=by
 have QK:=ae V;have HM:=ae QO;have QH:=ae hT;clear V QO hT;have M:=ae ((q9 w).alloc ly (Q #[Y a n cap] 25));have k0:(w.alloc (Q #[Y a n cap] 25)).cell? (N w.heap.size 0 Z)=T (Y a n cap):=by simp
 obtain⟨c1,c2,z⟩:∃ c1 c2,cH f n=(c1,c2):=⟨_,_,rfl⟩
 rw[z];have QR:=ae z;clear z;by_cases QJ:(n:Int)=0
 ·have g:c1=1/\c2=0:=by have:=QR.out;unfold cH at this;rw[gM (.inl (by omega))] at this;simp only[IA] at this;omega
  clear QR;obtain⟨g,x⟩:=g;subst g x;obtain rfl:n=0:=by omega
  go_enter Tryz.func86,Tryz.ntmps86;go_wp2;go_ret2;exact⟨rfl,M⟩
 by_cases h4:(400:Int)<(n:Int)
 ·have g:c1=1/\c2=0:=by have:=QR.out;unfold cH at this;rw[gM (.inr (by omega))] at this;simp only[IA] at this;omega
  clear QR;obtain⟨g,x⟩:=g;subst g x;have aq:((n:Int) == 0)=QB:=by simpa using QJ
  go_enter Tryz.func86,Tryz.ntmps86;go_wp2;go_ret2;exact⟨rfl,M⟩
 have m:Hid ((if aF (aW f) n≠-1 then ((2:Int),aF (aW f) n) else if aF (fun p=>aH f p p) n≠-1 then (3,aF (fun p=>aH f p p) n) else if bw 0 (aB f n)≠-1 then (4,bw 0 (aB f n)) else if aQ f (aB f n)≠-1 then (5,aQ f (aB f n)) else (0,0))=(c1,c2)):=by have:=QR.out;unfold cH at this;rw[cM (by omega)] at this;exact this
 clear QR;obtain⟨b,off,rfl,QP⟩:=QK.resolve_left (by omega);have L:=ae QP;have aq:((n:Int) == 0)=QB:=by simpa using QJ
 clear QK QP;have E:(n:Int)<=400:=by omega
 have S:=ae (M.alloc (by simp) (Q #[.func (.func 132) #[] #[],.func (.func 133) #[] #[],.func (.func 134) #[] #[],.func (.func 135) #[] #[]] 205));go_enter Tryz.func86,Tryz.ntmps86;go_wp2;have QN:(w.alloc (Q #[Y (T (N b off Z)) n cap] 25)).heap.size=w.heap.size+1:=by simp
 have C:=ae (Ct (w.alloc (Q #[Y (T (N b off Z)) n cap] 25)) (.func (.func 132) #[] #[]) (.func (.func 133) #[] #[]) (.func (.func 134) #[] #[]) (.func (.func 135) #[] #[]) 205);rw[QN] at C;have k1:=(((a8 (w.heap.size+1) (w.alloc (Q #[Y (T (N b off Z)) n cap] 25))).alloc (by omega) (Q #[.func (.func 132) #[] #[],.func (.func 133) #[] #[],.func (.func 134) #[] #[],.func (.func 135) #[] #[]] 205)).cell (p:=(N w.heap.size 0 Z)) (eL _)).trans k0;clear QN k0 M;generalize (w.alloc (Q #[Y (T (N b off Z)) n cap] 25)).alloc (Q #[.func (.func 132) #[] #[],.func (.func 133) #[] #[],.func (.func 134) #[] #[],.func (.func 135) #[] #[]] 205)=W at S C k1 ⊢;have D:w.heap.size+1<W.heap.size:=C.lt;go_loopw [21] (fun i wr=>∃ k:Nat,k<=4/\i=.int I k/\Hid (1<=k->aF (aW f) n=-1)/\Hid (2<=k->aF (fun p=>aH f p p) n=-1)/\Hid (3<=k->bw 0 (aB f n)=-1)/\Hid (4<=k->aQ f (aB f n)=-1)/\Hid (Below W.heap.size W wr)) (fun i _=>4 - (intOf i).toNat);case atStart=>exact⟨0,by omega,rfl,fun h=>by omega,fun h=>by omega,fun h=>by omega,fun h=>by omega,a8 _ _⟩
 case round =>
  obtain⟨k,hk,rfl,u,K,QM,H4,s⟩:=hrel;have k2:=(s.cell (p:=(N w.heap.size 0 Z)) (by show w.heap.size<_;omega)).trans k1;have t:=ae (S.trans (s.mono S.size));by_cases hlt:k<4
  ·rcases(show k=0∨k=1∨k=2∨k=3 by omega) with rfl | rfl | rfl | rfl
   ·have QL:=(s.cell (p:=(N (w.heap.size+1) 0 Z)) D).trans C.c0
    have o:=ae (ru b off n cap f _ E (L.below t ly) P HM (QH.below t QH.1));have q:=ae (oU _ _:aF (aW f) n=-1∨0<=aF (aW f) n);obtain⟨X,hX⟩:∃ X,X=aF (aW f) n:=⟨_,rfl⟩
    rw[<-hX] at o q;have l:=ae hX;clear hX;go_wp2_with fail;refine o.mono ?_;rintro e R ⟨rfl,r⟩;have B:=ae (t.trans (r.mono t.size));have y:=ae (s.trans (r.mono s.size));clear r o;by_cases j:X=-1
    ·have A:Hid (aF (aW f) n=-1):=l.symm.trans j
     have O:decide (0<=X)=QB:=by rw[j];rfl
     clear j;go_wp2;exact⟨⟨0+1,by omega,by go_num,fun _=>A,fun h=>by omega,fun h=>by omega,fun h=>by omega,y⟩,by simp[intOf]⟩
    ·have g:c1=2/\c2=X:=by
      have:=m.out;rw[gM (by rw[<-l.out];exact j),<-l.out] at this;simp only[IA] at this;omega
     have H:0<=X:=q.resolve_left j;obtain⟨g,x⟩:=g;clear m j q;subst g x;go_wp2;go_ret2;exact⟨rfl,B⟩
   ·have QL:=(s.cell (p:=(N (w.heap.size+1) 1 Z)) D).trans C.c1
    have o:=ae (rE b off n cap f _ E (L.below t ly) (zQ (u (by omega))));have q:=ae (oU _ _:aF (fun p=>aH f p p) n=-1∨0<=aF (fun p=>aH f p p) n);obtain⟨X,hX⟩:∃ X,X=aF (fun p=>aH f p p) n:=⟨_,rfl⟩
    rw[<-hX] at o q;have l:=ae hX;clear hX;go_wp2_with fail;refine o.mono ?_;rintro e R ⟨rfl,r⟩;have B:=ae (t.trans (r.mono t.size));have y:=ae (s.trans (r.mono s.size));clear r o;by_cases j:X=-1
    ·have A:Hid (aF (fun p=>aH f p p) n=-1):=l.symm.trans j
     have O:decide (0<=X)=QB:=by rw[j];rfl
     clear j;go_wp2;exact⟨⟨1+1,by omega,by go_num,fun _=>u (by omega),fun _=>A,fun h=>by omega,fun h=>by omega,y⟩,by simp[intOf]⟩
    ·have g:c1=3/\c2=X:=by
      have:=m.out;rw[cM (by rw[u.out (by omega)];simp),gM (by rw[<-l.out];exact j),<-l.out] at this;simp only[IA] at this;omega
     have H:0<=X:=q.resolve_left j;obtain⟨g,x⟩:=g;clear m j q;subst g x;go_wp2;go_ret2;exact⟨rfl,B⟩
   ·have QL:=(s.cell (p:=(N (w.heap.size+1) 2 Z)) D).trans C.c2
    have o:=ae (rG b off n cap f _ (gB (u (by omega))) (by omega) E (L.below t ly) (nR (u (by omega))) (by have:=jN (gB (u (by omega))) (n:=n) (by omega);omega));have q:=ae (zP _ _:bw 0 (aB f n)=-1∨0<=bw 0 (aB f n));obtain⟨X,hX⟩:∃ X,X=bw 0 (aB f n):=⟨_,rfl⟩
    rw[<-hX] at o q;have l:=ae hX;clear hX;go_wp2_with fail;refine o.mono ?_;rintro e R ⟨rfl,r⟩;have B:=ae (t.trans (r.mono t.size));have y:=ae (s.trans (r.mono s.size));clear r o;by_cases j:X=-1
    ·have A:Hid (bw 0 (aB f n)=-1):=l.symm.trans j
     have O:decide (0<=X)=QB:=by rw[j];rfl
     clear j;go_wp2;exact⟨⟨2+1,by omega,by go_num,fun _=>u (by omega),fun _=>K (by omega),fun _=>A,fun h=>by omega,y⟩,by simp[intOf]⟩
    ·have g:c1=4/\c2=X:=by
      have:=m.out;rw[cM (by rw[u.out (by omega)];simp),cM (by rw[K.out (by omega)];simp),gM (by rw[<-l.out];exact j),<-l.out] at this;simp only[IA] at this;omega
     have H:0<=X:=q.resolve_left j;obtain⟨g,x⟩:=g;clear m j q;subst g x;go_wp2;go_ret2;exact⟨rfl,B⟩
   ·have QL:=(s.cell (p:=(N (w.heap.size+1) 3 Z)) D).trans C.c3
    have o:=ae (un b off n cap f _ (gB (u (by omega))) (by omega) E (L.below t ly) (nR (u (by omega))));have q:=ae (qF _ _:aQ f (aB f n)=-1∨0<=aQ f (aB f n));obtain⟨X,hX⟩:∃ X,X=aQ f (aB f n):=⟨_,rfl⟩
    rw[<-hX] at o q;have l:=ae hX;clear hX;go_wp2_with fail;refine o.mono ?_;rintro e R ⟨rfl,r⟩;have B:=ae (t.trans (r.mono t.size));have y:=ae (s.trans (r.mono s.size));clear r o;by_cases j:X=-1
    ·have A:Hid (aQ f (aB f n)=-1):=l.symm.trans j
     have O:decide (0<=X)=QB:=by rw[j];rfl
     clear j;go_wp2;exact⟨⟨3+1,by omega,by go_num,fun _=>u (by omega),fun _=>K (by omega),fun _=>QM (by omega),fun _=>A,y⟩,by simp[intOf]⟩
    ·have g:c1=5/\c2=X:=by
      have:=m.out;rw[cM (by rw[u.out (by omega)];simp),cM (by rw[K.out (by omega)];simp),cM (by rw[QM.out (by omega)];simp),gM (by rw[<-l.out];exact j),<-l.out] at this;simp only[IA] at this;omega
     have H:0<=X:=q.resolve_left j;obtain⟨g,x⟩:=g;clear m j q;subst g x;go_wp2;go_ret2;exact⟨rfl,B⟩
  ·obtain rfl:k=4:=by omega
   have g:c1=0/\c2=0:=by have:=m.out;rw[cM (by rw[u.out (by omega)];simp),cM (by rw[K.out (by omega)];simp),cM (by rw[QM.out (by omega)];simp),cM (by rw[H4.out (by omega)];simp)] at this;simp only[IA] at this;omega
   obtain⟨g,x⟩:=g;clear m;subst g x;go_wp2;go_ret2;exact⟨rfl,t⟩
end Go.Proofs.YtamacmnikdejeaaGreatDoor.Vp
