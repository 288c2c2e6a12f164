import Derived.Test.YtamacmnikdejeaaGreatDoorZC
import Derived.RangeFuncNested
import Derived.RangeFuncBound
import Derived.RangeFuncCalls
import Derived.RangeFuncLeaves
import Derived.Shelf.Abstract
import Derived.Shelf.RegionOpen
import Derived.OwnWalkIn
import Derived.TacticsInMore
import Derived.LoopNIn
import Derived.LoopIn
import Derived.Sort.QuietIn
import Derived.Sort.BigQuietIn
import Derived.Sort.CutIn
import Derived.Test.YtamacmnikdejeaaGreatDoorZF
import Derived.Maps.OwnSet
import Derived.Maps.Views
import Derived.StringKeys
set_option maxRecDepth 100000
set_option maxHeartbeats 4000000
set_option linter.unusedSimpArgs false
open Go.Addr renaming mk->T
open Go.Value renaming slice->Y
open Option renaming none->Z,some->N
open Go.Obj renaming cells->Q
open Go.IntKind renaming i64->J
open Go renaming World->H,Value->QS
open Bool renaming false->QQ,true->QR
open Go.Ending renaming returned->QU
namespace Go.Proofs.YtamacmnikdejeaaGreatDoor.Vp
open RowKit
theorem Eu {f:Nat->aj}{k:Nat}{D:DataW Unit}(b:Maps.IsMap D)(h:∀ p,Maps.has D (.string (f p).name.data.toList)=!aW f p k)(d:DataW Unit):∀ p,Maps.has (D.put (.string (f k).name.data.toList) d) (.string (f p).name.data.toList)=!aW f p (k+1):=by
 intro p;rw[aW,Bool.not_and,<-h p,Bool.not_not];by_cases e:(f p).name.data.toList=(f k).name.data.toList
 ·rw[e,OU b (by simp[WideAt.IsKeyLit])]
  simp[D0,e]
 ·rw[NA (by simpa using e)]
  have:((f k).name.toList == (f p).name.toList)=QQ:=by simpa[D0] using fun h=>e (by rw[h])
  rw[this];simp
theorem sj (b off n cap:Nat)(f:Nat->aj)(w:H)(hn:(n:Int)<=400)(QZ:RowDeed w b off n f)(K:∀ i,i<n->(f i).name.size<=maxLen):Calls Tryz.prog 133 #[.agg #[Y (N (T b off Z)) n cap]] w fun e QW=>e=QU (.int J (aK (fun p=>aW f p p) n))/\Below w.heap.size w QW:=by
 have HF:=ae QZ;have HS:=ae K;clear QZ K;have R:=ae (((q9 w).alloc ly (Q #[Y (N (T b off Z)) n cap] 25)).alloc (by simp) (.map #[] 0));have B:=ae (N5 (w.alloc (Q #[Y (N (T b off Z)) n cap] 25)) Tryz.prog 9 (plainElem (H:=Unit) Tryz.prog 3));have hz:(w.alloc (Q #[Y (N (T b off Z)) n cap] 25)).heap.size=w.heap.size+1:=by simp
 rw[hz] at B;clear hz;obtain⟨r,G⟩:∃ r,r=aK (fun p=>aW f p p) n:=⟨_,rfl⟩
 rw[<-G];have Q0:=ae G;clear G;have M:=@QN Tryz.prog;go_enter Tryz.func133,Tryz.ntmps133;go_wp2;clear M;generalize (w.alloc (Q #[Y (N (T b off Z)) n cap] 25)).alloc (.map #[] 0)=W at R B ⊢;obtain⟨o,q⟩:∃ o,o=w.heap.size+1:=⟨_,rfl⟩
 rw[<-q] at B ⊢;have O:=ae q;clear q;go_loopw [12] (fun i wr=>∃ (k:Nat) (D:DataW Unit),k<=n/\i=.int J k/\Hid (∀ j,j<k->aW f j j=QR)/\Hid (wr.ownsMap Tryz.prog 9 (plainElem (H:=Unit) Tryz.prog 3) o k D)/\Hid (∀ p,Maps.has D (.string (f p).name.data.toList)=!aW f p k)/\Hid (Below w.heap.size w wr)) (fun i _=>n - (intOf i).toNat);case atStart=>exact⟨0,_,by omega,rfl,fun j QY=>absurd QY (JP _),B,fun p=>rfl,R⟩
 case round =>
  obtain⟨k,D,hk,rfl,Q9,C,L,l⟩:=hrel;by_cases u:k<n
  ·obtain⟨p0,p1,p2,p3,⟨a0,t,p4,QX⟩,⟨a1,x,p5,X⟩⟩:=(HF.below l ly).2 k u
   clear QX X;have z:=MQ (P:=Tryz.prog) (k:=9) Tryz.underlying9 (HS k u);have h:=ae z;have E:=ae (L k);clear z;cases hnew:aW f k k with
   | false =>
    have A:Maps.has D (.string (f k).name.data.toList)=QR:=by rw[E.out,hnew];rfl
    have HHS:=ae A;obtain rfl:r=k:=by rw[Q0.out];exact fM u hnew Q9
    clear hnew;have ZA:=ae (l.alloc l.size (Q #[.string (f k).name,.int J (f k).kind,.int J (f k).code,.string (f k).text,Y a0 (f k).actN t,Y a1 (f k).linksN x] 46));go_wp2_with (at_lookup;refine wpList_lookup_own_ok_int _ rfl _ _ 245 rfl 9 3 J (MO Tryz.underlying9) Tryz.underlying245 Tryz.underlying3 (Tryz.zeroValue3 _) o k D rfl (C.alloc _) _ _ rfl h ?_;intro c s y;clear s y);go_ret;exact⟨rfl,ZA⟩
   | true =>
    have A:Maps.has D (.string (f k).name.data.toList)=QQ:=by rw[E.out,hnew];rfl
    have S:=ae hnew;clear hnew;have F:(Lit.int J (k:Int)).wf=QR:=by simp only[Lit.wf,IntKind.min,IntKind.max,IntKind.signed,IntKind.bits,gB,kP,QE];omega
    have Q2:=ae F;clear F
    go_wp2_with (first
     | (at_lookup;refine wpList_lookup_own_ok_int _ rfl _ _ 245 rfl 9 3 J (MO Tryz.underlying9) Tryz.underlying245 Tryz.underlying3 (Tryz.zeroValue3 _) o k D rfl (C.alloc _) _ _ rfl h ?_;intro c s y;clear s y)
     | (at_mapUpdate;refine NQ _ rfl _ _ _ 245 rfl 9 3 (MO Tryz.underlying9) Tryz.underlying245 _ o k D rfl (C.alloc _) (by unfold maxLen;omega) _ _ _ rfl rfl h _ [] (plainElem_int Tryz.underlying3 Q2) ?_;intro w1 m g;have V:=ae m;have ZA:=ae (bg (l.alloc l.size (Q #[.string (f k).name,.int J (f k).kind,.int J (f k).code,.string (f k).text,Y a0 (f k).actN t,Y a1 (f k).linksN x] 46)) g (by have:=l.size;simp;omega) (fun j e=>by cases e;have:=O.out;omega));clear m g))
    exact⟨⟨k+1,_,by omega,by go_num,fun j QY=>by
     by_cases e:j=k
     ·subst e;exact S
     ·exact Q9 j (by omega),V,Eu C.isMap L _,ZA⟩,by simp[intOf];omega⟩
  ·have e:n=k:=by omega
   subst e;obtain rfl:r=-1:=by rw[Q0.out];exact ep Q9
   go_wp2;go_ret;exact⟨rfl,l⟩
end Go.Proofs.YtamacmnikdejeaaGreatDoor.Vp
namespace Go.Proofs.YtamacmnikdejeaaGreatDoor.Vp
open RowKit Go.Shelf Ca
attribute [local go_sem] Oper.semAt_some
structure LSt (w0 W:H)(n1 b off n cap L M l:Nat)(s:Nat->Bool):Prop where
 c0:W.cell? (T L 0 Z)=N (Y (N (T b off Z)) n cap)
 c1:W.cell? (T L 1 Z)=N (Y (N (T M 0 Z)) n n)
 c2:W.cell? (T L 2 Z)=N (.func (.yield l) #[] #[])
 row:∀ q,q<n->W.cell? (T M q Z)=N (.bool (s q))/\W.frozen? (T M q Z)=QQ
 low:Below w0.heap.size w0 W
 hL:n1<=L/\L<W.heap.size
 hM:n1<=M/\M<W.heap.size
 ne:L≠M
 hb:w0.heap.size<=n1
 tyM:OfTy W M 4
 tyL:OfTy W L 276
theorem LSt.blocks {g W f:H}{n1 b off n cap L M l:Nat}{s:Nat->Bool}(h:LSt g W n1 b off n cap L M l s)(hz:W.heap.size<=f.heap.size)(j:f.heap[L]?=W.heap[L]?)(i:f.heap[M]?=W.heap[M]?)(p:Below g.heap.size g f):LSt g f n1 b off n cap L M l s:=by have c:∀ o,f.cell? (T L o Z)=W.cell? (T L o Z):=fun o=>cj (a:=(T L o Z)) j;exact⟨(c 0).trans h.c0,(c 1).trans h.c1,(c 2).trans h.c2,fun q m=>⟨(cj (a:=(T M q Z)) i).trans (h.row q m).1,(JW (a:=(T M q Z)) i).trans (h.row q m).2⟩,p,⟨h.hL.1,lj h.hL.2 hz⟩,⟨h.hM.1,lj h.hM.2 hz⟩,h.ne,h.hb,h.tyM.eq i,h.tyL.eq j⟩
theorem LSt.below {c W f:H}{n1 b off n cap L M l:Nat}{s:Nat->Bool}(h:LSt c W n1 b off n cap L M l s)(hb:Below W.heap.size W f):LSt c f n1 b off n cap L M l s :=
 h.blocks hb.size (hb.block L h.hL.2) (hb.block M h.hM.2) (h.low.trans (hb.mono h.low.size))
theorem LSt.upd {f W i:H}{n1 b off n cap L M l:Nat}{s:Nat->Bool}{Q2:TypeId}(g:Q2≠4/\Q2≠276)(h:LSt f W n1 b off n cap L M l s)(c:Upd2 Q2 f.heap.size n1 W i):LSt f i n1 b off n cap L M l s :=
 h.blocks c.size (c.block L h.hL.2 (.inr ⟨h.hL.1,h.tyL.ne g.2⟩)) (c.block M h.hM.2 (.inr ⟨h.hM.1,h.tyM.ne g.1⟩)) (h.low.trans (c.below h.low.size))
theorem LSt.set {g W:H}{n1 b off n cap L M l p:Nat}{s:Nat->Bool}(h:LSt g W n1 b off n cap L M l s)(hp:p<n):LSt g (W.setCell (T M p Z) (.bool QR)) n1 b off n cap L M l (put s p):=by
 have c:∀ o,(W.setCell (T M p Z) (.bool QR)).cell? (T L o Z)=W.cell? (T L o Z):=fun o=>sq _ _ _ _ (by simp;exact fun e=>absurd e.symm h.ne);refine⟨(c 0).trans h.c0,(c 1).trans h.c1,(c 2).trans h.c2,fun q f=>⟨?_,by simpa using(h.row q f).2⟩,h.low.setCell (by have:=h.hM.1;have:=h.hb;show _<=M;omega) _,by simpa using h.hL,by simpa using h.hM,h.ne,h.hb,h.tyM.set _ _,h.tyL.set _ _⟩;by_cases e:q=p
 ·subst e
  rw[p7 _ _ _ (by rw[(h.row q f).1];rfl)];simp[put]
 ·rw[sq _ _ _ _ (by simp),(h.row q f).1]
  simp[put,e]
theorem py {go:Nat->Nat->(Nat->Bool)->(Nat->Bool) × List (Nat × Nat)}{x:aj}{d:Nat}{s:Nat->Bool}{i m:Nat}(h:i<=m):(lks go x d s i).2 <+: (lks go x d s m).2:=by
 induction m with
 | zero =>
  obtain rfl:i=0:=by omega
  exact P3
 | succ k b =>
  by_cases e:i=k+1
  ·subst e;exact P3
  ·refine(b (by omega)).trans ?_
   rw[lks];split
   ·exact QM _ _
   ·exact P3
theorem Ev {Q2:TypeId}(hT:Q2≠4/\Q2≠276)(O:H)(n1 b off n cap L M l:Nat)(G:List (Nat × Nat))(f:Nat->aj)(Q9 V:List (Nat × Nat)->H->Prop)(hA:fZ f n)(hn:(n:Int)<=400)(hf:RowDeed O b off n f)(th:∀ p,p<n->(f p).linksN<=200)
  (hJ:∀ s A C,Q9 s A->Itr 4 n1 A C->Q9 s C) (mv:∀ s A C,V s A->Itr 4 n1 A C->V s C)
  (hY:∀ m c (x:Nat × Nat) W,x.1<n->Q9 c W->c++[x] <+: G->n1<=W.heap.size->YieldAt Fence.wide m Tryz.prog l #[.int J (x.1:Int),.int J (x.2:Int)] W fun e u =>
   (e=QU (.bool QR)/\Q9 (c++[x]) u/\Upd2 Q2 O.heap.size n1 W u)∨(e=QU (.bool QQ)/\V (c++[x]) u)) :
  ∀ (k p d:Nat) (s:Nat->Bool) (c:List (Nat × Nat)) (W:H) (ZA:Nat),p<k->p<n->d+p<=1000->LSt O W n1 b off n cap L M l s->s p=QQ->Q9 c W->c++(lst f k p d s).2 <+: G ->
   CallsIn Fence.wide ZA Tryz.prog 189 #[.pointer (N (T L 0 Z)),.int J (p:Int),.int J (d:Int)] W fun e u =>(e=QU (.bool QR)/\Q9 (c++(lst f k p d s).2) u/\LSt O u n1 b off n cap L M l (lst f k p d s).1)∨(e=QU (.bool QQ)/\∃ q,q <+: (lst f k p d s).2/\V (c++q) u):=by
 intro k;induction k with
 | zero=>intro p d s c W ZA h;omega
 | succ k ih =>
  intro p d s c W ZA hpk F hdp hS hs n8 hN;have HS:=ae hS;have GE:=ae n8;have HN:=ae hN;have Fm:=ae ih;have HY:=ae hY;have QX:=ae hJ;have HJx:=ae mv;have HA:=ae hA;have HF:=ae hf;obtain⟨_,_,_,_,_,⟨a1,cap1,n9,q5⟩⟩:=hf.2 p F;have p5:=(hS.low.cell (p:=(T b (off+p*6+5) Z)) hf.1).trans n9;obtain⟨m,QW⟩:∃ m,m=(f p).linksN:=⟨_,rfl⟩
  have hm2:m<=200:=by rw[QW];exact th p F
  rw[<-QW] at p5 q5;have HL:=ae q5;have HM:=ae QW;have e0:=hS.c0;obtain⟨K,R⟩:∃ K,K=lks (lst f k) (f p) d s:=⟨_,rfl⟩
  have ZB:Hid (lst f (k+1) p d s=(put (K m).1 p,(K m).2++[(p,d)])):=by rw[R,QW];rfl
  have At:Hid (K 0=(s,[])):=by rw[R];rfl
  have GC:Hid (∀ j,K (j+1)=if ((f p).links j).ask=QR/\(K j).1 ((f p).links j).at_.toNat=QQ then ((lst f k ((f p).links j).at_.toNat (d+1) (K j).1).1,(K j).2++(lst f k ((f p).links j).at_.toNat (d+1) (K j).1).2) else K j):=fun j=>by rw[R];rfl
  have DQ:Hid (∀ i,i<=m->(K i).2 <+: (K m).2):=fun i hi=>by rw[R];exact py hi
  clear hS n8 hN ih hY hJ mv hA hf q5 QW th n9 R;refine QP Tryz.func189 rfl trivial ?_ rfl;simp only[Tryz.ntmps189,LC,z8,IS,Nat.reduceAdd,Nat.reduceSub,LV,LX,MP,MB,JT,KH];gi_wp2;clear e0 p5;gi_loopw [18] (fun i wr=>∃ j:Nat,j<=m/\i=.int J j/\Hid (LSt O wr n1 b off n cap L M l (K j).1)/\Hid (Q9 (c++(K j).2) wr)) (fun i _=>m - (intOf i).toNat);case atStart=>exact⟨0,by omega,rfl,by rw[At.out];exact HS,by rw[At.out,L8];exact GE⟩
  case round =>
   obtain⟨j,hj,rfl,g,ro⟩:=hrel;by_cases Fn:j<m
   ·obtain⟨lb,lo,rfl,bt⟩:=(HL.below g.low ly).resolve_left (by omega)
    obtain⟨d0,d1,d2,d3⟩:=bt.2 j Fn;clear bt;have S:=GC.out j;have aq:=HA.out p F j (by have:=HM.out;omega);generalize (f p).links j=x at d0 d1 d2 d3 S aq;have fd:=ae S;clear S;have E:=ae (g.below (br.alloc ly (Q #[.string x.name,.bool x.ask,.bool x.has,.int J x.at_] 129)));have J1:=ae (QX _ _ _ ro (Itr.of_below ((q9 wr).alloc ly (Q #[.string x.name,.bool x.ask,.bool x.has,.int J x.at_] 129)) ly (by have:=g.hL;omega)));have e1:(wr.alloc (Q #[.string x.name,.bool x.ask,.bool x.has,.int J x.at_] 129)).cell? (T wr.heap.size 1 Z)=N (.bool x.ask):=by simp
    have e3:(wr.alloc (Q #[.string x.name,.bool x.ask,.bool x.has,.int J x.at_] 129)).cell? (T wr.heap.size 3 Z)=N (.int J x.at_):=by simp
    have ur:=ae aq;clear aq;gi_upto_region 4 with fail;clear d0 d1 d2 d3;generalize wr.alloc (Q #[.string x.name,.bool x.ask,.bool x.has,.int J x.at_] 129)=B at E J1 e1 e3 ⊢;generalize wr.heap.size=X at e1 e3 ⊢;cases hask:x.ask with
    | false =>
     have o:K (j+1)=K j:=by rw[fd.out,eI (by rw[hask];simp)]
     have t:=ae o;clear o;rw[hask] at e1;have GF:∀ f,Fence.wide.fn f=True:=fun _=>rfl;gi_quiet (fail);have P:=ae (E.below (F6 (q9 B) nq));have QY:=ae (QX _ _ _ J1 (Itr.of_below (F6 (q9 B) nq) ly (by have:=E.hL;omega)));gi_wp2;exact⟨⟨j+1,by omega,by go_num,by rw[t.out];exact P,by rw[t.out];exact QY⟩,by simp[intOf];omega⟩
    | true =>
     obtain⟨q,hq⟩:∃ q:Nat,x.at_=(q:Int):=⟨x.at_.toNat,by have:=(ur hask).2;omega⟩
     have hqp:q<p:=by have:=(ur hask).1;rw[hq] at this;simpa using this
     rw[hq] at e3;rw[hask] at e1;have f1:=E.c1;obtain⟨f2,_⟩:=E.row q (by omega);have hq0:(0:Int)<=q:=by omega
     have hqn:(q:Int)<n:=by omega
     have GF:∀ f,Fence.wide.fn f=True:=fun _=>rfl;cases hl:(K j).1 q with
     | true =>
      have o:K (j+1)=K j:=by rw[fd.out,eI (by rw[hq];simp[hl])]
      have t:=ae o;clear o;rw[hl] at f2;gi_quiet (fail);have P:=ae (E.below (F6 (q9 B) nq));have QY:=ae (QX _ _ _ J1 (Itr.of_below (F6 (q9 B) nq) ly (by have:=E.hL;omega)));gi_wp2;exact⟨⟨j+1,by omega,by go_num,by rw[t.out];exact P,by rw[t.out];exact QY⟩,by simp[intOf];omega⟩
     | false =>
      have o:K (j+1)=((lst f k q (d+1) (K j).1).1,(K j).2++(lst f k q (d+1) (K j).1).2):=by rw[fd.out,gA ⟨hask,by rw[hq];simpa using hl⟩,hq];simp
      have t:=ae o;have la:=DQ.out (j+1) (by omega);rw[o] at la;have Bk:=ae la;have ld:((d+1:Nat):Int)=(d:Int)+1:=by omega
      have HC:Hid (∀ Q0 ZA,LSt O Q0 n1 b off n cap L M l (K j).1->Q9 (c++(K j).2) Q0->CallsIn Fence.wide ZA Tryz.prog 189 #[.pointer (N (T L 0 Z)),.int J (q:Int),.int J ((d:Int)+1)] Q0 fun e u =>
        ∃ r:Bool,e=QU (.bool r)/\Hid ((r=QR/\Q9 (c++(K (j+1)).2) u/\LSt O u n1 b off n cap L M l (K (j+1)).1)∨(r=QQ/\∃ q,q <+: (K m).2++[(p,d)]/\V (c++q) u))):=by
       intro Q0 ZA h1 h2;have QZ:(c++(K j).2)++(lst f k q (d+1) (K j).1).2 <+: G:=by have D:=HN.out;rw[ZB.out] at D;obtain⟨z,hz⟩:=D;obtain⟨y,hy⟩:=Bk.out;exact⟨y++[(p,d)]++z,by rw[<-hz];simp only[];rw[<-hy];simp⟩
       have h:=Fm.out q (d+1) (K j).1 (c++(K j).2) Q0 ZA (by omega) (by omega) (by omega) h1 hl h2 QZ;rw[ld] at h;refine h.mono fun e u h=>?_;rcases h with ⟨he,hj,hs⟩ | ⟨he,q',GD,hx⟩
       ·exact⟨QR,he,.inl ⟨rfl,by rw[t.out,<-JM];exact hj,by rw[t.out];exact hs⟩⟩
       ·refine⟨QQ,he,.inr ⟨rfl,(K j).2++q',?_,by rw[<-JM];exact hx⟩⟩
        obtain⟨z,hz⟩:=GD;obtain⟨y,hy⟩:=Bk.out;exact⟨z++y++[(p,d)],by rw[<-hy,<-hz];simp⟩
      have Fd:=ae (E.below ((q9 B).drew));have DE:=ae (QX _ _ _ J1 (Itr.of_below (q9 B).drew ly (by have:=E.hL;omega)));have hwr:IntKind.i64.wrap ((d:Int)+1)=(d:Int)+1:=by rw[j6];omega
      clear o la;rw[hl] at f2;gi_region_with ((try refine⟨fun h=>(by cases h),?_⟩);gi_at_call 189;refine(HC _ _ ?_ ?_).mono ?_;(first | exact Fd | exact E);(first | exact DE | exact J1);rintro e W3 ⟨r,rfl,H3⟩);all_goals
       cases r with
       | true =>have D:=H3.resolve_right (fun h=>by cases h.1);have S3:=ae D.2.2;have J3:=ae D.2.1;clear D H3;gi_wp2;exact⟨⟨j+1,by omega,by go_num,S3,J3⟩,by simp[intOf];omega⟩
       | false =>have D:=H3.resolve_left (fun h=>by cases h.1);have X3:=ae D.2;clear D H3;gi_wp2;go_ret;rw[ZB.out];exact .inr ⟨rfl,X3⟩
   ·have e:m=j:=by omega
    subst e;have P:=ae (g.set F);have QY:=ae (QX _ _ _ ro (Itr.setCell wr (p:=(T M p Z)) g.hM.1 g.tyM (.bool QR)));have QZ:(c++(K m).2)++[(p,d)] <+: G:=by have D:=HN.out;rw[ZB.out] at D;simpa using D
    have Fk:=HY.out (ZA - 1) (c++(K m).2) (p,d) _ F QY QZ (by have:=g.hL;simp;omega);obtain⟨fn,tmps,assign,body,hy,hR⟩:=Fk;dsimp only at hy;have HR:=ae hR;clear hR;have g1:=g.c1;obtain⟨g3,g4⟩:=g.row p F;have g2:=P.c2;have hp0:(0:Int)<=p:=by omega
    have hpn':(p:Int)<n:=by omega
    gi_wp2;refine⟨fun h=>(by cases h),HR.mono ?_⟩;rintro e W3 (⟨rfl,sm,qr⟩ | ⟨rfl,ph⟩)
    ·have J3:=ae sm
     have S3:=ae (P.upd hT qr);clear sm qr;gi_wp2;go_ret;rw[ZB.out];exact .inl ⟨rfl,by rw[<-JM];exact J3,S3⟩
    ·have X3:=ae ph
     clear ph;gi_wp2;go_ret;rw[ZB.out];exact .inr ⟨rfl,_,P3,by rw[<-JM];exact X3⟩
attribute [local go_sem] Oper.semAt_some
theorem Cb {F:Fence}(b:F.depth=Z){m i:Nat}{P:Program}{l:Nat}{f:FuncId}{tmps:Array QS}{assign body:Code}{w:H}{R:Ending->H->Prop}
  (h:RoundIn F m P l f tmps assign body w R):RoundIn F i P l f tmps assign body w R:=⟨h.1,fun c g _=>h.2 c g (fun d h=>by rw[b] at h;cases h)⟩
theorem Cc {F:Fence}(b:F.depth=Z){m:Nat}(c:Nat){P:Program}{l:Nat}{args:Array QS}{W:H}{R:Ending->H->Prop}(h:YieldAt F m P l args W R):YieldAt F c P l args W R:=by obtain⟨fn,tmps,assign,body,f,hR⟩:=h;exact⟨fn,tmps,assign,body,f,Cb b hR⟩
theorem Cd:(Tryz.prog.info? 4).map (fun i=>(i.zero,i.size,i.bytes))=N (N (.bool QQ),1,1):=by kernel_rfl
def bH (n:Nat):Array QS:=madeCells (Value.bool QQ).cells n
theorem zG (n:Nat)(hn:n<=1048576)(w:H):(Instr.makeSlice 212 (.int J (n:Int)) (.int J (n:Int))).run Tryz.prog w=.ok (Y (N (T w.heap.size 0 Z)) n n) (w.alloc (Q (bH n) 4)):=by obtain⟨i,hi,hz⟩:=MG.1 Cd;simp only[IT] at hz;obtain⟨h1,h2,b⟩:=hz;have h:=run_make (P:=Tryz.prog) w 212 4 i _ Tryz.underlying212 hi h1 J J n n (by omega) (Int.le_refl _) (by rw[b];omega) (by omega);rw[h2] at h;simpa[bH] using h
theorem tB (n q:Nat)(h:q<n):(bH n)[q]?=N (.bool QQ):=by unfold bH madeCells;simp[Value.cells,h,Nat.mod_one]
theorem pz (W:H)(n q:Nat)(h:q<n):(W.alloc (Q (bH n) 4)).cell? (T W.heap.size q Z)=N (.bool QQ)/\(W.alloc (Q (bH n) 4)).frozen? (T W.heap.size q Z)=QQ:=by
 have e:=cM W (Q (bH n) 4);refine⟨?_,?_⟩
 ·rw[cell_of_row _ _ _ _ _ _ e]
  exact tB n q h
 ·unfold World.frozen?
  rw[e];simp
theorem Ce {f W:H}{b off n cap l:Nat}(c:Below f.heap.size f W):LSt f ((W.alloc (Q (bH n) 4)).alloc (Q #[Y (N (T b off Z)) n cap,Y (N (T W.heap.size 0 Z)) n n,.func (.yield l) #[] #[]] 276)).drew W.heap.size b off n cap (W.heap.size+1) W.heap.size l (fun _=>QQ):=by
 have hz:(W.alloc (Q (bH n) 4)).heap.size=W.heap.size+1:=by simp
 have D:Below (W.heap.size+1) (W.alloc (Q (bH n) 4)) ((W.alloc (Q (bH n) 4)).alloc (Q #[Y (N (T b off Z)) n cap,Y (N (T W.heap.size 0 Z)) n n,.func (.yield l) #[] #[]] 276)).drew:=(br.alloc (by omega) _).drew;refine⟨?_,?_,?_,fun q g=>?_,((c.alloc c.size _).alloc (by simp;have:=c.size;omega) _).drew,by simp,by simp;omega,by omega,c.size,?_,?_⟩
 ·simp
 ·simp
 ·simp
 ·exact⟨(D.cell (p:=(T W.heap.size q Z)) (j2 _)).trans (pz W n q g).1,(D.frozen (p:=(T W.heap.size q Z)) (j2 _)).trans (pz W n q g).2⟩
 ·exact(OfTy.new W _ _).eq (D.block _ (j2 _))
 ·have h:=OfTy.new (W.alloc (Q (bH n) 4)) #[Y (N (T b off Z)) n cap,Y (N (T W.heap.size 0 Z)) n n,.func (.yield l) #[] #[]] 276
  rw[hz] at h;exact h.eq rfl
theorem Cf {f W:H}{b off n cap l:Nat}(c:Below f.heap.size f W):LSt f ((W.alloc (Q #[Y (N (T b off Z)) n cap,Y (N (T (W.heap.size+1) 0 Z)) n n,.func (.yield l) #[] #[]] 276)).alloc (Q (bH n) 4)).drew W.heap.size b off n cap W.heap.size (W.heap.size+1) l (fun _=>QQ):=by
 have hz:(W.alloc (Q #[Y (N (T b off Z)) n cap,Y (N (T (W.heap.size+1) 0 Z)) n n,.func (.yield l) #[] #[]] 276)).heap.size=W.heap.size+1:=by simp
 have D:Below (W.heap.size+1) (W.alloc (Q #[Y (N (T b off Z)) n cap,Y (N (T (W.heap.size+1) 0 Z)) n n,.func (.yield l) #[] #[]] 276)) ((W.alloc (Q #[Y (N (T b off Z)) n cap,Y (N (T (W.heap.size+1) 0 Z)) n n,.func (.yield l) #[] #[]] 276)).alloc (Q (bH n) 4)).drew:=(br.alloc (by omega) _).drew;refine⟨(D.cell (p:=(T W.heap.size 0 Z)) (j2 _)).trans (by simp),(D.cell (p:=(T W.heap.size 1 Z)) (j2 _)).trans (by simp),(D.cell (p:=(T W.heap.size 2 Z)) (j2 _)).trans (by simp),fun q g=>?_,((c.alloc c.size _).alloc (by simp;have:=c.size;omega) _).drew,by simp;omega,by simp,by omega,c.size,?_,?_⟩
 ·have h:=pz (W.alloc (Q #[Y (N (T b off Z)) n cap,Y (N (T (W.heap.size+1) 0 Z)) n n,.func (.yield l) #[] #[]] 276)) n q g
  rw[hz] at h;exact h
 ·have h:=OfTy.new (W.alloc (Q #[Y (N (T b off Z)) n cap,Y (N (T (W.heap.size+1) 0 Z)) n n,.func (.yield l) #[] #[]] 276)) (bH n) 4
  rw[hz] at h;exact h.eq rfl
 ·exact(OfTy.new W _ _).eq (D.block _ (j2 _))
theorem pA (v:QS)(w:H)(c:Nat):CallsIn Fence.wide c Tryz.prog 165 #[.agg #[v]] w fun e b=>e=QU (.func (.func 188) #[] #[.pointer (N (T w.heap.size 0 Z))])/\b=w.alloc (Q #[v] 25):=by refine QP Tryz.func165 rfl trivial ?_ rfl;simp only[Tryz.ntmps165,LC,z8,IS,Nat.reduceAdd,Nat.reduceSub,LV,LX,MP,MB,JT,KH];gi_wp2;go_ret;exact⟨rfl,rfl⟩
theorem tC {Q2:TypeId}(hT:Q2≠4/\Q2≠276)(j:H)(b off n cap t C:Nat)(f:Nat->aj)(w:H)(hA:fZ f n)(hn1:1<=n)(hn:(n:Int)<=400)(S:RowDeed j b off n f)(ZA:∀ p,p<n->(f p).linksN<=200)(o:Below j.heap.size j w)(G:w.cell? (T t 0 Z)=N (Y (N (T b off Z)) n cap))(z:t<w.heap.size):SeqT2 Q2 4 Fence.wide C Tryz.prog 188 #[.pointer (N (T t 0 Z))] (fun x:Nat × Nat=>#[Value.int J (x.1:Int),Value.int J (x.2:Int)]) (fun c x=>x.1<n/\c++[x] <+: aC f n) j.heap.size (fun i=>i=aC f n) (fun c=>c <+: aC f n) w:=by
 intro l Q9 P W A hJ D hY B;have hl:=Ev hT j W.heap.size b off n cap;have F:=ae hl;clear hl;have QW:=(A.cell (p:=(T t 0 Z)) z).trans G;have aq:=fun w=>zG n (by omega) w;have hwb:IntKind.i64.wrap ((n:Int) - 1)=(n:Int) - 1:=by rw[j6];omega
 have Q0:=ae hJ;have K:=ae D;have HY:=ae hY;have QY:=ae B;have HA:=ae hA;have HF:=ae S;have E:=ae ZA;have g:=ae (o.trans (A.mono o.size));have QX:t<W.heap.size:=lj z A.size;clear hJ D hY B hA S ZA o A G z;refine QP Tryz.func188 rfl trivial ?_ rfl;simp only[Tryz.ntmps188,LC,z8,IS,Nat.reduceAdd,Nat.reduceSub,LV,LX,MP,MB,JT,KH];have ZB:∀ L M u,LSt j u W.heap.size b off n cap L M l (fun _=>QQ)->Below W.heap.size W u->CallsIn Fence.wide (C - 1) Tryz.prog 189 #[.pointer (N (T L 0 Z)),.int J ((n:Int) - 1),.int J 0] u fun e s =>
   ∃ r:Bool,e=QU (.bool r)/\Hid ((∃ i,i=aC f n/\Q9 i s)∨(∃ c,c <+: aC f n/\P c s)):=by
  intro L M u O X;have h:=F.out L M l (aC f n) f Q9 P HA hn HF E Q0 K (fun m c x W1 B h1 h2 h3=>Cc rfl m (HY c x W1 ⟨B,h2⟩ h1 h3)) n (n - 1) 0 (fun _=>QQ) [] u (C - 1) (by omega) (by omega) (by omega) O rfl (Q0 _ _ _ QY (Itr.of_below X ly  ly)) (by simp[aC]);rw[show((n - 1:Nat):Int)=(n:Int) - 1 by omega] at h;refine h.mono fun e s h=>?_;rcases h with ⟨QZ,hj,_⟩ | ⟨QZ,q,hq,hx⟩
  ·exact⟨QR,QZ,.inl ⟨_,rfl,by simpa[aC] using hj⟩⟩
  ·exact⟨QQ,QZ,.inr ⟨q,hq,by simpa using hx⟩⟩
 have y:=ae ZB;have D1:=ae (((q9 W).alloc ly (Q (bH n) 4)).alloc (by simp) (Q #[Y (N (T b off Z)) n cap,Y (N (T W.heap.size 0 Z)) n n,.func (.yield l) #[] #[]] 276)).drew;have V:=ae (((q9 W).alloc ly (Q #[Y (N (T b off Z)) n cap,Y (N (T (W.heap.size+1) 0 Z)) n n,.func (.yield l) #[] #[]] 276)).alloc (by simp) (Q (bH n) 4)).drew;have hfw:∀ f,Fence.wide.fn f=True:=fun _=>rfl;clear ZB F Q0 K HY QY HA HF E;gi_upto_region 0 with fail;gi_cut [3] from 4 (fun s3 wx=>∃ L,s3=.pointer (N (T L 0 Z))/\Hid (∃ M,LSt j wx W.heap.size b off n cap L M l (fun _=>QQ))/\Hid (Below W.heap.size W wx));case first =>
  have hsf:=fun(w:H) (a:Addr) (m:Mode)=>run_store Tryz.prog w a (.func (.yield l) #[] #[]) m rfl;gi_region_with fail;all_goals
   gi_wp2_with fail;gi_meet;first
    | exact⟨W.heap.size+1,rfl,⟨W.heap.size,Ce g⟩,D1⟩
    | exact⟨W.heap.size,rfl,⟨W.heap.size+1,Cf g⟩,V⟩
 case rest =>
 obtain⟨L,rfl,HS,R⟩:=hcut;have hB1:=(R.cell (p:=(T t 0 Z)) QX).trans QW;have HC:Hid (CallsIn Fence.wide (C - 1) Tryz.prog 189 #[.pointer (N (T L 0 Z)),.int J ((n:Int) - 1),.int J 0] wc fun e s=>∃ r:Bool,e=QU (.bool r)/\Hid ((∃ i,i=aC f n/\Q9 i s)∨(∃ c,c <+: aC f n/\P c s))):=by obtain⟨M,O⟩:=HS.out;exact y L M wc O R
 clear y HS aq R g D1 V QW;gi_wp2_with ((try refine⟨fun h=>(by cases h),?_⟩);gi_at_call 189;refine HC.mono ?_;rintro e W3 ⟨r,rfl,H3⟩);go_end0;exact⟨⟨_,rfl⟩,H3⟩
theorem nU (c:H)(b off n cap g q:Nat)(f:Nat->aj)(w:H)(r:fZ f n)(hn1:1<=n)(hn:(n:Int)<=400)(t:RowDeed c b off n f)(l:∀ p,p<n->(f p).linksN<=200)(j:Below c.heap.size c w)(o:w.cell? (T g 0 Z)=N (Y (N (T b off Z)) n cap))(m:g<w.heap.size):AQ Fence.wide q Tryz.prog 188 #[.pointer (N (T g 0 Z))] (fun x:Nat × Nat=>#[Value.int J (x.1:Int),Value.int J (x.2:Int)]) (fun x=>x.1<n) c.heap.size (fun s=>s=aC f n) (fun i=>i <+: aC f n) (aC f n).length w :=
 (tC (Q2:=46) ⟨by decide,by decide⟩ c b off n cap g q f w r hn1 hn t l j o m).plain fun i x h=>⟨h.1,by have:=h.2.length_le;simp at this;omega⟩
attribute [local go_sem] Oper.semAt_some
theorem pB {i:Nat}{b:List (Nat × Nat)}{x:Nat × Nat}(h:bD i b=-1):bD i (b++[x])=if x.1=i+b.length then -1 else ((i+b.length:Nat):Int):=by
 induction b generalizing i with
 | nil=>simp[bD]
 | cons y c f =>
  simp only[bD,KH] at h ⊢;split at h
  ·rename_i e
   rw[gA e,f h];simp only[z8];have:i+1+c.length=i+(c.length+1):=by omega
   rw[this]
  ·omega
theorem tD {i:Nat}{b c:List (Nat × Nat)}(f:b <+: c)(h:bD i b≠-1):bD i c=bD i b:=by
 induction b generalizing i c with
 | nil=>exact absurd rfl h
 | cons y ys g =>
  obtain⟨t,rfl⟩:=f;simp only[bD,KH] at h ⊢;split
  ·rename_i e
   rw[gA e] at h;exact g (QM _ _) h
  ·rfl
theorem ve {f:Nat->aj}{b:List (Nat × Nat)}{x:Nat × Nat}(h:aY f b=-1):aY f (b++[x])=if (f x.1).kind=3/\60<=x.2 then (x.1:Int) else -1:=by
 induction b with
 | nil=>simp[aY]
 | cons y ys c =>
  simp only[aY,KH] at h ⊢;split at h
  ·omega
  ·rename_i e
   rw[eI e,c h]
theorem su {f:Nat->aj}{b c:List (Nat × Nat)}(g:b <+: c)(h:aY f b≠-1):aY f c=aY f b:=by
 induction b generalizing c with
 | nil=>exact absurd rfl h
 | cons y ys i =>
  obtain⟨t,rfl⟩:=g;simp only[aY,KH] at h ⊢;split
  ·rfl
  ·rename_i e
   rw[eI e] at h;exact i (QM _ _) h
structure Gn (W:H)(h:Nat)(v:QS):Prop where
 size:W.heap.size=h+4
 r:W.cell? (T (h+1) 0 Z)=N (.int J 0)/\W.frozen? (T (h+1) 0 Z)=QQ
 t:W.cell? (T (h+1+1) 0 Z)=N (.int J 0)/\W.frozen? (T (h+1+1) 0 Z)=QQ
 a:W.cell? (T (h+1+1+1) 0 Z)=N v
 a0:W.cell? (T h 0 Z)=N v
theorem xO (w:H)(v:QS)(t u:TypeId):Gn ((((w.alloc (Q #[v] t)).alloc (Q #[.int J 0] u)).alloc (Q #[.int J 0] u)).alloc (Q #[v] t)) w.heap.size v:=by
 have b:(w.alloc (Q #[v] t)).heap.size=w.heap.size+1:=by simp
 have c:((w.alloc (Q #[v] t)).alloc (Q #[.int J 0] u)).heap.size=w.heap.size+1+1:=by simp
 have f:(((w.alloc (Q #[v] t)).alloc (Q #[.int J 0] u)).alloc (Q #[.int J 0] u)).heap.size=w.heap.size+1+1+1:=by simp
 have i:Below (w.heap.size+1) (w.alloc (Q #[v] t)) ((((w.alloc (Q #[v] t)).alloc (Q #[.int J 0] u)).alloc (Q #[.int J 0] u)).alloc (Q #[v] t)):=((br.alloc (by omega) _).alloc (by omega) _).alloc (by omega) _;have g:Below (w.heap.size+1+1) ((w.alloc (Q #[v] t)).alloc (Q #[.int J 0] u)) ((((w.alloc (Q #[v] t)).alloc (Q #[.int J 0] u)).alloc (Q #[.int J 0] u)).alloc (Q #[v] t)):=(br.alloc (by omega) _).alloc (by omega) _;have h:Below (w.heap.size+1+1+1) (((w.alloc (Q #[v] t)).alloc (Q #[.int J 0] u)).alloc (Q #[.int J 0] u)) ((((w.alloc (Q #[v] t)).alloc (Q #[.int J 0] u)).alloc (Q #[.int J 0] u)).alloc (Q #[v] t)):=br.alloc (by omega) _;refine⟨by simp,⟨?_,?_⟩,⟨?_,?_⟩,?_,(i.cell (p:=(T w.heap.size 0 Z)) (j2 _)).trans (by simp)⟩
 ·refine(g.cell (p:=(T (w.heap.size+1) 0 Z)) (j2 _)).trans ?_
  rw[<-b];clear i g h b c f;generalize w.alloc (Q #[v] t)=W;simp
 ·refine(g.frozen (p:=(T (w.heap.size+1) 0 Z)) (j2 _)).trans ?_
  rw[<-b];clear i g h b c f;generalize w.alloc (Q #[v] t)=W;simp
 ·refine(h.cell (p:=(T (w.heap.size+1+1) 0 Z)) (j2 _)).trans ?_
  rw[<-c];clear i g h b c f;generalize (w.alloc (Q #[v] t)).alloc (Q #[.int J 0] u)=W;simp
 ·refine(h.frozen (p:=(T (w.heap.size+1+1) 0 Z)) (j2 _)).trans ?_
  rw[<-c];clear i g h b c f;generalize (w.alloc (Q #[v] t)).alloc (Q #[.int J 0] u)=W;simp
 ·rw[<-f]
  clear i g h b c f;generalize ((w.alloc (Q #[v] t)).alloc (Q #[.int J 0] u)).alloc (Q #[.int J 0] u)=W;simp
theorem sy (b off n cap:Nat)(f:Nat->aj)(w:H)(X:fZ f n)(hn1:1<=n)(hn:(n:Int)<=400)(ZA:RowDeed w b off n f)(Q9:∀ p,p<n->(f p).linksN<=200)(hlen:(aC f n).length<=400):Calls Tryz.prog 134 #[.agg #[Y (N (T b off Z)) n cap]] w fun e QX=>e=QU (.int J (bD 0 (aC f n)))/\Below w.heap.size w QX:=by
 refine(QH (n:=3)).1 ?_;have HF:=ae ZA;have HA:=ae X;have aq:=ae Q9;clear ZA X Q9;have QZ:=((((q9 w).alloc ly (Q #[Y (N (T b off Z)) n cap] 25)).alloc (by simp) (Q #[.int J 0] 3)).alloc (by simp;omega) (Q #[.int J 0] 3)).alloc (by simp;omega) (Q #[Y (N (T b off Z)) n cap] 25);have V:=ae QZ;clear QZ;have C:=ae (xO w (Y (N (T b off Z)) n cap) 25 3);refine callsIn_of_wp_marks Tryz.func134 rfl trivial ?_ rfl;simp only[Tryz.ntmps134,LC,z8,IS,Nat.reduceAdd,Nat.reduceSub,LV,LX,MP,MB,JT,KH];gi_wp2_with (refine⟨trivial,?_⟩;gi_at_call 165;refine(pA _ _ _).mono ?_;rintro e QX ⟨rfl,rfl⟩);generalize (((w.alloc (Q #[Y (N (T b off Z)) n cap] 25)).alloc (Q #[.int J 0] 3)).alloc (Q #[.int J 0] 3)).alloc (Q #[Y (N (T b off Z)) n cap] 25)=W at V C ⊢;have hsz:=C.size;obtain⟨Q0,R⟩:=C.r;obtain⟨L,O⟩:=C.t
 refine ju (F:=Fence.wide) rfl (by omega) (gf:=188) (lb:=#[.pointer (N (T (w.heap.size+1+1+1) 0 Z))]) rfl trivial (enters_of Tryz.func188 (by kernel_rfl) rfl) (base:=w.heap.size) (by omega)
  (nU w b off n cap (w.heap.size+1+1+1) (3 - 1) f W HA hn1 hn HF aq V C.a (by omega)) br (fun _=>rfl)
  (fun g j=>j.cell? (T (w.heap.size+1+1) 0 Z)=N (.int J (g.length:Int))/\j.frozen? (T (w.heap.size+1+1) 0 Z)=QQ/\j.cell? (T (w.heap.size+1) 0 Z)=N (.int J 0)/\j.frozen? (T (w.heap.size+1) 0 Z)=QQ/\Hid (bD 0 g=-1)/\Hid (Below w.heap.size w j))
  (fun c g j=>c=.ret/\j.cell? (T (w.heap.size+1) 0 Z)=N (.int J (bD 0 g))/\Hid (bD 0 g≠-1)/\Hid (Below w.heap.size w j))
  (fun s A B h m=>⟨(m.cell (p:=(T (w.heap.size+1+1) 0 Z)) (by show w.heap.size+1+1<W.heap.size;omega)).trans h.1,(m.frozen (p:=(T (w.heap.size+1+1) 0 Z)) (by show w.heap.size+1+1<W.heap.size;omega)).trans h.2.1,(m.cell (p:=(T (w.heap.size+1) 0 Z)) (by show w.heap.size+1<W.heap.size;omega)).trans h.2.2.1,(m.frozen (p:=(T (w.heap.size+1) 0 Z)) (by show w.heap.size+1<W.heap.size;omega)).trans h.2.2.2.1,h.2.2.2.2.1,h.2.2.2.2.2.trans (m.mono (by omega))⟩)
  (fun c s A B h m=>⟨h.1,(m.cell (p:=(T (w.heap.size+1) 0 Z)) (by show w.heap.size+1<W.heap.size;omega)).trans h.2.1,h.2.2.1,h.2.2.2.trans (m.mono (by omega))⟩)
  ⟨L,O,Q0,R,rfl,V⟩
  (fun x=>{ tmps:=#[.agg #[Y (N (T b off Z)) n cap],.pointer (N (T w.heap.size 0 Z)),.pointer (N (T (w.heap.size+1) 0 Z)),.pointer (N (T (w.heap.size+1+1) 0 Z)),.int J (x.1:Int),.agg #[Y (N (T b off Z)) n cap],.func (.func 188) #[] #[.pointer (N (T (w.heap.size+1+1+1) 0 Z))],.int J (x.1:Int),.int J (x.2:Int),undef,undef,undef,undef,undef,undef],defers:=[] }) ?assign ?body ?done ?stop
 case assign =>intro l x W K y;gi_wp2;exact y
 case body =>
  rintro l g x i _ ⟨hc,ZA,u,M,q,z⟩ hlt hz;clear Q0 R L O;have hpl:(g.length:Int)<=1048576:=by omega
  by_cases hx:(x.1:Int)=(g.length:Int)
  ·have D:bD 0 (g++[x])=-1:=by rw[pB q.out,gA (by omega)]
   have o:=ae D;clear D;have S:=ae (Upd.setCell (P:=fun k=>w.heap.size<=k/\k<W.heap.size) i (p:=(T (w.heap.size+1+1) 0 Z)) ⟨by show _<=_+1+1;omega,by show _+1+1<_;omega⟩ (.int J ((g.length:Int)+1)));have ZB:=ae (z.setCell (p:=(T (w.heap.size+1+1) 0 Z)) (by show _<=_+1+1;omega) (.int J ((g.length:Int)+1)));have c1:(i.setCell (T (w.heap.size+1+1) 0 Z) (.int J ((g.length:Int)+1))).cell? (T (w.heap.size+1+1) 0 Z)=N (.int J ((g++[x]).length:Int)):=by rw[p7 _ _ _ (by rw[hc];rfl)];simp
   have c2:(i.setCell (T (w.heap.size+1+1) 0 Z) (.int J ((g.length:Int)+1))).cell? (T (w.heap.size+1) 0 Z)=N (.int J 0):=by rw[sq _ _ _ _ (by simp)];exact u
   have G:=ae c1;have C2:=ae c2;clear c1 c2;gi_wp2;exact⟨S,G,by simpa using ZA,C2,by simpa using M,o,ZB⟩
  ·have D:bD 0 (g++[x])=(g.length:Int):=by rw[pB q.out,eI (by omega)];simp
   have o:=ae D;clear D;have S:=ae (Upd.setCell (P:=fun k=>w.heap.size<=k/\k<W.heap.size) i (p:=(T (w.heap.size+1) 0 Z)) ⟨by show _<=_+1;omega,by show _+1<_;omega⟩ (.int J (g.length:Int)));have ZB:=ae (z.setCell (p:=(T (w.heap.size+1) 0 Z)) (by show _<=_+1;omega) (.int J (g.length:Int)));have G:=ae (p7 i (T (w.heap.size+1) 0 Z) (.int J (g.length:Int)) (by rw[u];rfl));gi_wp2;exact⟨S,rfl,by rw[o.out];exact G,by show _≠_;rw[o.out];omega,ZB⟩
 case done =>rintro QW ys i Q2 rfl ⟨_,_,u,M,q,z⟩ y;have K1:=ae ((KeepsOthers.setCell i (T (w.heap.size+1) 0 Z) (.int J (-1))).same QW _ y rfl);have ZB:=ae (z.setCell (p:=(T (w.heap.size+1) 0 Z)) (by show _<=_+1;omega) (.int J (-1)));have G:=ae (p7 i (T (w.heap.size+1) 0 Z) (.int J (-1)) (by rw[u];rfl));gi_wp2;refine⟨by simp,.inl ⟨_,_,rfl,run_takeDeferred K1,?_⟩⟩;have E:=dS (n:=W.heap.size) (i.setCell (T (w.heap.size+1) 0 Z) (.int J (-1))) Q2 (nX.1 K1).1 (.deferred Z);have c:=(E.cell (p:=(T (w.heap.size+1) 0 Z)) (by show w.heap.size+1<W.heap.size;omega)).trans G;exact⟨.int J (-1),by simp[results,Tryz.results134,go_sem,c],by rw[q.out],ZB.trans (E.mono (by omega))⟩
 case stop =>rintro QW c g i Q2 QY ⟨rfl,u,q,z⟩ y;gi_wp2;refine⟨by simp,.inl ⟨_,_,rfl,run_takeDeferred y,?_⟩⟩;have E:=dS (n:=W.heap.size) i Q2 (nX.1 y).1 (.deferred Z);have c:=(E.cell (p:=(T (w.heap.size+1) 0 Z)) (by show w.heap.size+1<W.heap.size;omega)).trans u;exact⟨.int J (bD 0 g),by simp[results,Tryz.results134,go_sem,c],by rw[tD QY q.out],z.trans (E.mono (by omega))⟩
structure Gp (W:H)(h:Nat)(v:QS):Prop where
 size:W.heap.size=h+3
 r:W.cell? (T (h+1) 0 Z)=N (.int J 0)/\W.frozen? (T (h+1) 0 Z)=QQ
 a:W.cell? (T (h+1+1) 0 Z)=N v
 a0:W.cell? (T h 0 Z)=N v
theorem xP (w:H)(v:QS)(t u:TypeId):Gp (((w.alloc (Q #[v] t)).alloc (Q #[.int J 0] u)).alloc (Q #[v] t)) w.heap.size v:=by
 have b:(w.alloc (Q #[v] t)).heap.size=w.heap.size+1:=by simp
 have c:((w.alloc (Q #[v] t)).alloc (Q #[.int J 0] u)).heap.size=w.heap.size+1+1:=by simp
 have g:Below (w.heap.size+1) (w.alloc (Q #[v] t)) (((w.alloc (Q #[v] t)).alloc (Q #[.int J 0] u)).alloc (Q #[v] t)):=(br.alloc (by omega) _).alloc (by omega) _;have f:Below (w.heap.size+1+1) ((w.alloc (Q #[v] t)).alloc (Q #[.int J 0] u)) (((w.alloc (Q #[v] t)).alloc (Q #[.int J 0] u)).alloc (Q #[v] t)):=br.alloc (by omega) _;refine⟨by simp,⟨?_,?_⟩,?_,(g.cell (p:=(T w.heap.size 0 Z)) (j2 _)).trans (by simp)⟩
 ·refine(f.cell (p:=(T (w.heap.size+1) 0 Z)) (j2 _)).trans ?_
  rw[<-b];clear g f b c;generalize w.alloc (Q #[v] t)=W;simp
 ·refine(f.frozen (p:=(T (w.heap.size+1) 0 Z)) (j2 _)).trans ?_
  rw[<-b];clear g f b c;generalize w.alloc (Q #[v] t)=W;simp
 ·rw[<-c]
  clear g f b c;generalize (w.alloc (Q #[v] t)).alloc (Q #[.int J 0] u)=W;simp
theorem vf (b off n cap:Nat)(f:Nat->aj)(w:H)(R:fZ f n)(hn1:1<=n)(hn:(n:Int)<=400)(V:RowDeed w b off n f)(E:∀ p,p<n->(f p).linksN<=200):Calls Tryz.prog 135 #[.agg #[Y (N (T b off Z)) n cap]] w fun e QY=>e=QU (.int J (aY f (aC f n)))/\Below w.heap.size w QY:=by
 refine(QH (n:=3)).1 ?_;have HF:=ae V;have HA:=ae R;have X:=ae E;clear V R E;have G:=(((q9 w).alloc ly (Q #[Y (N (T b off Z)) n cap] 25)).alloc (by simp) (Q #[.int J 0] 3)).alloc (by simp;omega) (Q #[Y (N (T b off Z)) n cap] 25);have M:=ae G;clear G;have y:=ae (xP w (Y (N (T b off Z)) n cap) 25 3);refine callsIn_of_wp_marks Tryz.func135 rfl trivial ?_ rfl;simp only[Tryz.ntmps135,LC,z8,IS,Nat.reduceAdd,Nat.reduceSub,LV,LX,MP,MB,JT,KH];gi_wp2_with (refine⟨trivial,?_⟩;gi_at_call 165;refine(pA _ _ _).mono ?_;rintro e QY ⟨rfl,rfl⟩);generalize ((w.alloc (Q #[Y (N (T b off Z)) n cap] 25)).alloc (Q #[.int J 0] 3)).alloc (Q #[Y (N (T b off Z)) n cap] 25)=W at M y ⊢;have hsz:=y.size;obtain⟨ZB,ZA⟩:=y.r;have ta:=y.a0
 refine ju (F:=Fence.wide) rfl (by omega) (gf:=188) (lb:=#[.pointer (N (T (w.heap.size+1+1) 0 Z))]) rfl trivial (enters_of Tryz.func188 (by kernel_rfl) rfl) (base:=w.heap.size) (by omega)
  (nU w b off n cap (w.heap.size+1+1) (3 - 1) f W HA hn1 hn HF X M y.a (by omega)) br (fun _=>rfl)
  (fun g q=>q.cell? (T w.heap.size 0 Z)=N (Y (N (T b off Z)) n cap)/\q.cell? (T (w.heap.size+1) 0 Z)=N (.int J 0)/\q.frozen? (T (w.heap.size+1) 0 Z)=QQ/\Hid (aY f g=-1)/\Hid (Below w.heap.size w q))
  (fun c g q=>c=.ret/\q.cell? (T (w.heap.size+1) 0 Z)=N (.int J (aY f g))/\Hid (aY f g≠-1)/\Hid (Below w.heap.size w q))
  (fun s A B h t=>⟨(t.cell (p:=(T w.heap.size 0 Z)) (by show w.heap.size<W.heap.size;omega)).trans h.1,(t.cell (p:=(T (w.heap.size+1) 0 Z)) (by show w.heap.size+1<W.heap.size;omega)).trans h.2.1,(t.frozen (p:=(T (w.heap.size+1) 0 Z)) (by show w.heap.size+1<W.heap.size;omega)).trans h.2.2.1,h.2.2.2.1,h.2.2.2.2.trans (t.mono (by omega))⟩)
  (fun c s A B h t=>⟨h.1,(t.cell (p:=(T (w.heap.size+1) 0 Z)) (by show w.heap.size+1<W.heap.size;omega)).trans h.2.1,h.2.2.1,h.2.2.2.trans (t.mono (by omega))⟩)
  ⟨ta,ZB,ZA,rfl,M⟩
  (fun x=>{ tmps:=#[.agg #[Y (N (T b off Z)) n cap],.pointer (N (T w.heap.size 0 Z)),.pointer (N (T (w.heap.size+1) 0 Z)),.int J (x.1:Int),.int J (x.2:Int),.agg #[Y (N (T b off Z)) n cap],.func (.func 188) #[] #[.pointer (N (T (w.heap.size+1+1) 0 Z))],.int J (x.1:Int),.int J (x.2:Int),undef,undef,undef,undef,undef,undef,undef,undef,undef,undef,undef,undef],defers:=[] }) ?assign ?body ?done ?stop
 case assign =>intro l x W K u;gi_wp2;exact u
 case body =>
  rintro l g x j QW ⟨S,o,z,C,m⟩ hlt hz;clear ZB ZA ta;obtain⟨_,p1,_⟩:=(HF.below m ly).2 x.1 QW;have hx0:(0:Int)<=(x.1:Int):=by omega
  have hxn:(x.1:Int)<n:=by omega
  have Q0:=ae (ve (x:=x) C);have U1:=ae (Upd.setCell (P:=fun k=>w.heap.size<=k/\k<W.heap.size) j (p:=(T (w.heap.size+1) 0 Z)) ⟨by show _<=_+1;omega,by show _+1<_;omega⟩ (.int J (x.1:Int)));have O:=ae (m.setCell (p:=(T (w.heap.size+1) 0 Z)) (by show _<=_+1;omega) (.int J (x.1:Int)));have QZ:=ae (p7 j (T (w.heap.size+1) 0 Z) (.int J (x.1:Int)) (by rw[o];rfl));cases h3:((f x.1).kind == 3) with
  | false =>
   have i:Hid (aY f (g++[x])=-1):=by show _=_;rw[Q0.out,eI (by intro h;rw[h.1] at h3;simp at h3)]
   gi_wp2;exact⟨Upd.refl _ _,S,o,z,i,m⟩
  | true =>
   by_cases h6:(60:Int)<=(x.2:Int)
   ·have i:Hid (aY f (g++[x])=(x.1:Int)):=by show _=_;rw[Q0.out,gA ⟨by simpa using h3,by omega⟩]
    gi_wp2;exact⟨U1,rfl,by rw[i.out];exact QZ,by show _≠_;rw[i.out];omega,O⟩
   ·have i:Hid (aY f (g++[x])=-1):=by show _=_;rw[Q0.out,eI (by intro h;omega)]
    gi_wp2;exact⟨Upd.refl _ _,S,o,z,i,m⟩
 case done =>rintro Q2 ys j Q9 rfl ⟨_,o,z,C,m⟩ u;have QX:=ae ((KeepsOthers.setCell j (T (w.heap.size+1) 0 Z) (.int J (-1))).same Q2 _ u rfl);have O:=ae (m.setCell (p:=(T (w.heap.size+1) 0 Z)) (by show _<=_+1;omega) (.int J (-1)));have QZ:=ae (p7 j (T (w.heap.size+1) 0 Z) (.int J (-1)) (by rw[o];rfl));gi_wp2;refine⟨by simp,.inl ⟨_,_,rfl,run_takeDeferred QX,?_⟩⟩;have D:=dS (n:=W.heap.size) (j.setCell (T (w.heap.size+1) 0 Z) (.int J (-1))) Q9 (nX.1 QX).1 (.deferred Z);have c:=(D.cell (p:=(T (w.heap.size+1) 0 Z)) (by show w.heap.size+1<W.heap.size;omega)).trans QZ;exact⟨.int J (-1),by simp[results,Tryz.results135,go_sem,c],by rw[C.out],O.trans (D.mono (by omega))⟩
 case stop =>rintro Q2 c g j Q9 L ⟨rfl,o,C,m⟩ u;gi_wp2;refine⟨by simp,.inl ⟨_,_,rfl,run_takeDeferred u,?_⟩⟩;have D:=dS (n:=W.heap.size) j Q9 (nX.1 u).1 (.deferred Z);have c:=(D.cell (p:=(T (w.heap.size+1) 0 Z)) (by show w.heap.size+1<W.heap.size;omega)).trans o;exact⟨.int J (aY f g),by simp[results,Tryz.results135,go_sem,c],by rw[su L C.out],m.trans (D.mono (by omega))⟩
end Go.Proofs.YtamacmnikdejeaaGreatDoor.Vp
namespace Go.Proofs.YtamacmnikdejeaaGreatDoor.Vp
open RowKit
theorem pC (g:Nat->Bool)(n:Nat):aK g n=-1∨0<=aK g n:=by
 induction n with
 | zero=>exact .inl rfl
 | succ k b =>
  rw[aK];split
  ·split
   ·exact .inl rfl
   ·exact .inr (by omega)
  ·exact b
theorem Cg (i:Nat)(b:List (Nat × Nat)):bD i b=-1∨0<=bD i b:=by
 induction b generalizing i with
 | nil=>exact .inl rfl
 | cons x b c =>
  rw[bD];split
  ·exact c _
  ·exact .inr (by omega)
theorem ru (f:Nat->aj)(b:List (Nat × Nat)):aY f b=-1∨0<=aY f b:=by
 induction b with
 | nil=>exact .inl rfl
 | cons x b c =>
  rw[aY];split
  ·exact .inr (by omega)
  ·exact c
theorem oI {f:Nat->aj}{n:Nat}(h:aK (bi f) n=-1):∀ p,p<n->(f p).linksN<=200:=by
 intro p b;have h1:=dM h p b;simp only[bi,gB,kindOk] at h1;obtain⟨_,h2⟩:=h1;split at h2
 ·simp[aP] at h2
  omega
 ·split at h2
  ·simp[aP] at h2
   omega
  ·split at h2
   ·simp only[ci,gB,kP] at h2
    omega
   ·cases h2
theorem Ci {f:Nat->aj}{n:Nat}(h:aK (bi f) n=-1):∀ p,p<n->(f p).name.size<=maxLen:=by intro p b;have h1:=dM h p b;simp only[bi,av,gB,kP] at h1;unfold maxLen;omega
theorem kE {f:Nat->aj}{n:Nat}(b:fZ f n)(hn:1<=n):(aC f n).length<=n:=by
 have h:=(vS b n (n - 1) 0 (fun _=>QQ) (by omega) (by omega) rfl).num;have h2:=cnt_le (lst f n (n - 1) 0 (fun _=>QQ)).1 n;have c:∀ k,cnt (fun _=>QQ) k=0:=by
  intro k;induction k with
  | zero=>rfl
  | succ j g=>rw[cnt,g];rfl
 rw[c] at h;unfold aC;omega
structure Gq (w:H)(b:Nat)(v0 v1 v2 v3:QS):Prop where
 lt:b<w.heap.size
 c0:w.cell? (T b 0 Z)=N v0
 c1:w.cell? (T b 1 Z)=N v1
 c2:w.cell? (T b 2 Z)=N v2
 c3:w.cell? (T b 3 Z)=N v3
theorem Ew (w:H)(f g c b:QS)(t:TypeId):Gq (w.alloc (Q #[f,g,c,b] t)) w.heap.size f g c b:=⟨by simp,by simp,by simp,by simp,by simp⟩
theorem vg (a:Option Addr)(n cap:Nat)(f:Nat->aj)(w:H)(hn:(n:Int)<=1048576)(hv:SlDeed w a n f)(R:(n:Int)<=cap)(G:∀ i,i<n->cS (f i))(V:Tab w):Calls Tryz.prog 86 #[.agg #[Y a n cap]] w fun e w'=>e=QU (.tuple #[.int J (dH f n).1,.int J (dH f n).2])/\Below w.heap.size w w':=by
 have QX:=ae hv;have HM:=ae G;have S:=ae V;clear hv G V;have K:=ae ((q9 w).alloc ly (Q #[Y a n cap] 25));have QW:(w.alloc (Q #[Y a n cap] 25)).cell? (T w.heap.size 0 Z)=N (Y a n cap):=by simp
 obtain⟨c1,c2,y⟩:∃ c1 c2,dH f n=(c1,c2):=⟨_,_,rfl⟩
 rw[y];have E:=ae y;clear y;by_cases h0:(n:Int)=0
 ·have g:c1=1/\c2=0:=by have:=E.out;unfold dH at this;rw[gA (.inl (by omega))] at this;simp only[IT] at this;omega
  clear E;obtain⟨g,u⟩:=g;subst g u;obtain rfl:n=0:=by omega
  go_enter Tryz.func86,Tryz.ntmps86;go_wp2;go_ret2;exact⟨rfl,K⟩
 by_cases h4:(400:Int)<(n:Int)
 ·have g:c1=1/\c2=0:=by have:=E.out;unfold dH at this;rw[gA (.inr (by omega))] at this;simp only[IT] at this;omega
  clear E;obtain⟨g,u⟩:=g;subst g u;have QY:((n:Int) == 0)=QQ:=by simpa using h0
  go_enter Tryz.func86,Tryz.ntmps86;go_wp2;go_ret2;exact⟨rfl,K⟩
 have l:Hid ((if aK (bi f) n≠-1 then ((2:Int),aK (bi f) n) else if aK (fun p=>aW f p p) n≠-1 then (3,aK (fun p=>aW f p p) n) else if bD 0 (aC f n)≠-1 then (4,bD 0 (aC f n)) else if aY f (aC f n)≠-1 then (5,aY f (aC f n)) else (0,0))=(c1,c2)):=by have:=E.out;unfold dH at this;rw[eI (by omega)] at this;exact this
 clear E;obtain⟨b,off,rfl,ZB⟩:=QX.resolve_left (by omega);have Q9:=ae ZB;have QY:((n:Int) == 0)=QQ:=by simpa using h0
 clear QX ZB;have C:(n:Int)<=400:=by omega
 have P:=ae (K.alloc (by simp) (Q #[.func (.func 132) #[] #[],.func (.func 133) #[] #[],.func (.func 134) #[] #[],.func (.func 135) #[] #[]] 205));go_enter Tryz.func86,Tryz.ntmps86;go_wp2;have L:(w.alloc (Q #[Y (N (T b off Z)) n cap] 25)).heap.size=w.heap.size+1:=by simp
 have z:=ae (Ew (w.alloc (Q #[Y (N (T b off Z)) n cap] 25)) (.func (.func 132) #[] #[]) (.func (.func 133) #[] #[]) (.func (.func 134) #[] #[]) (.func (.func 135) #[] #[]) 205);rw[L] at z;have Q2:=(((eL (w.heap.size+1) (w.alloc (Q #[Y (N (T b off Z)) n cap] 25))).alloc (by omega) (Q #[.func (.func 132) #[] #[],.func (.func 133) #[] #[],.func (.func 134) #[] #[],.func (.func 135) #[] #[]] 205)).cell (p:=(T w.heap.size 0 Z)) (j2 _)).trans QW;clear L QW K;generalize (w.alloc (Q #[Y (N (T b off Z)) n cap] 25)).alloc (Q #[.func (.func 132) #[] #[],.func (.func 133) #[] #[],.func (.func 134) #[] #[],.func (.func 135) #[] #[]] 205)=W at P z Q2 ⊢;have D:w.heap.size+1<W.heap.size:=z.lt;go_loopw [21] (fun i wr=>∃ k:Nat,k<=4/\i=.int J k/\Hid (1<=k->aK (bi f) n=-1)/\Hid (2<=k->aK (fun p=>aW f p p) n=-1)/\Hid (3<=k->bD 0 (aC f n)=-1)/\Hid (4<=k->aY f (aC f n)=-1)/\Hid (Below W.heap.size W wr)) (fun i _=>4 - (intOf i).toNat);case atStart=>exact⟨0,by omega,rfl,fun h=>by omega,fun h=>by omega,fun h=>by omega,fun h=>by omega,eL _ _⟩
 case round =>
  obtain⟨k,hk,rfl,t,F,O,H4,r⟩:=hrel;have k2:=(r.cell (p:=(T w.heap.size 0 Z)) (by show w.heap.size<_;omega)).trans Q2;have s:=ae (P.trans (r.mono P.size));by_cases hlt:k<4
  ·rcases(show k=0∨k=1∨k=2∨k=3 by omega) with rfl | rfl | rfl | rfl
   ·have Q0:=(r.cell (p:=(T (w.heap.size+1) 0 Z)) D).trans z.c0
    have m:=ae (sd b off n cap f _ C (Q9.below s ly) R HM (S.below s S.1));have o:=ae (pC _ _:aK (bi f) n=-1∨0<=aK (bi f) n);obtain⟨X,hX⟩:∃ X,X=aK (bi f) n:=⟨_,rfl⟩
    rw[<-hX] at m o;have j:=ae hX;clear hX;go_wp2_with fail;refine m.mono ?_;rintro e QZ ⟨rfl,q⟩;have A:=ae (s.trans (q.mono s.size));have x:=ae (r.trans (q.mono r.size));clear q m;by_cases c:X=-1
    ·have B:Hid (aK (bi f) n=-1):=j.symm.trans c
     have M:decide (0<=X)=QQ:=by rw[c];rfl
     clear c;go_wp2;exact⟨⟨0+1,by omega,by go_num,fun _=>B,fun h=>by omega,fun h=>by omega,fun h=>by omega,x⟩,by simp[intOf]⟩
    ·have g:c1=2/\c2=X:=by
      have:=l.out;rw[gA (by rw[<-j.out];exact c),<-j.out] at this;simp only[IT] at this;omega
     have ZA:0<=X:=o.resolve_left c;obtain⟨g,u⟩:=g;clear l c o;subst g u;go_wp2;go_ret2;exact⟨rfl,A⟩
   ·have Q0:=(r.cell (p:=(T (w.heap.size+1) 1 Z)) D).trans z.c1
    have m:=ae (sj b off n cap f _ C (Q9.below s ly) (Ci (t (by omega))));have o:=ae (pC _ _:aK (fun p=>aW f p p) n=-1∨0<=aK (fun p=>aW f p p) n);obtain⟨X,hX⟩:∃ X,X=aK (fun p=>aW f p p) n:=⟨_,rfl⟩
    rw[<-hX] at m o;have j:=ae hX;clear hX;go_wp2_with fail;refine m.mono ?_;rintro e QZ ⟨rfl,q⟩;have A:=ae (s.trans (q.mono s.size));have x:=ae (r.trans (q.mono r.size));clear q m;by_cases c:X=-1
    ·have B:Hid (aK (fun p=>aW f p p) n=-1):=j.symm.trans c
     have M:decide (0<=X)=QQ:=by rw[c];rfl
     clear c;go_wp2;exact⟨⟨1+1,by omega,by go_num,fun _=>t (by omega),fun _=>B,fun h=>by omega,fun h=>by omega,x⟩,by simp[intOf]⟩
    ·have g:c1=3/\c2=X:=by
      have:=l.out;rw[eI (by rw[t.out (by omega)];simp),gA (by rw[<-j.out];exact c),<-j.out] at this;simp only[IT] at this;omega
     have ZA:0<=X:=o.resolve_left c;obtain⟨g,u⟩:=g;clear l c o;subst g u;go_wp2;go_ret2;exact⟨rfl,A⟩
   ·have Q0:=(r.cell (p:=(T (w.heap.size+1) 2 Z)) D).trans z.c2
    have m:=ae (sy b off n cap f _ (jw (t (by omega))) (by omega) C (Q9.below s ly) (oI (t (by omega))) (by have:=kE (jw (t (by omega))) (n:=n) (by omega);omega));have o:=ae (Cg _ _:bD 0 (aC f n)=-1∨0<=bD 0 (aC f n));obtain⟨X,hX⟩:∃ X,X=bD 0 (aC f n):=⟨_,rfl⟩
    rw[<-hX] at m o;have j:=ae hX;clear hX;go_wp2_with fail;refine m.mono ?_;rintro e QZ ⟨rfl,q⟩;have A:=ae (s.trans (q.mono s.size));have x:=ae (r.trans (q.mono r.size));clear q m;by_cases c:X=-1
    ·have B:Hid (bD 0 (aC f n)=-1):=j.symm.trans c
     have M:decide (0<=X)=QQ:=by rw[c];rfl
     clear c;go_wp2;exact⟨⟨2+1,by omega,by go_num,fun _=>t (by omega),fun _=>F (by omega),fun _=>B,fun h=>by omega,x⟩,by simp[intOf]⟩
    ·have g:c1=4/\c2=X:=by
      have:=l.out;rw[eI (by rw[t.out (by omega)];simp),eI (by rw[F.out (by omega)];simp),gA (by rw[<-j.out];exact c),<-j.out] at this;simp only[IT] at this;omega
     have ZA:0<=X:=o.resolve_left c;obtain⟨g,u⟩:=g;clear l c o;subst g u;go_wp2;go_ret2;exact⟨rfl,A⟩
   ·have Q0:=(r.cell (p:=(T (w.heap.size+1) 3 Z)) D).trans z.c3
    have m:=ae (vf b off n cap f _ (jw (t (by omega))) (by omega) C (Q9.below s ly) (oI (t (by omega))));have o:=ae (ru _ _:aY f (aC f n)=-1∨0<=aY f (aC f n));obtain⟨X,hX⟩:∃ X,X=aY f (aC f n):=⟨_,rfl⟩
    rw[<-hX] at m o;have j:=ae hX;clear hX;go_wp2_with fail;refine m.mono ?_;rintro e QZ ⟨rfl,q⟩;have A:=ae (s.trans (q.mono s.size));have x:=ae (r.trans (q.mono r.size));clear q m;by_cases c:X=-1
    ·have B:Hid (aY f (aC f n)=-1):=j.symm.trans c
     have M:decide (0<=X)=QQ:=by rw[c];rfl
     clear c;go_wp2;exact⟨⟨3+1,by omega,by go_num,fun _=>t (by omega),fun _=>F (by omega),fun _=>O (by omega),fun _=>B,x⟩,by simp[intOf]⟩
    ·have g:c1=5/\c2=X:=by
      have:=l.out;rw[eI (by rw[t.out (by omega)];simp),eI (by rw[F.out (by omega)];simp),eI (by rw[O.out (by omega)];simp),gA (by rw[<-j.out];exact c),<-j.out] at this;simp only[IT] at this;omega
     have ZA:0<=X:=o.resolve_left c;obtain⟨g,u⟩:=g;clear l c o;subst g u;go_wp2;go_ret2;exact⟨rfl,A⟩
  ·obtain rfl:k=4:=by omega
   have g:c1=0/\c2=0:=by have:=l.out;rw[eI (by rw[t.out (by omega)];simp),eI (by rw[F.out (by omega)];simp),eI (by rw[O.out (by omega)];simp),eI (by rw[H4.out (by omega)];simp)] at this;simp only[IT] at this;omega
   obtain⟨g,u⟩:=g;clear l;subst g u;go_wp2;go_ret2;exact⟨rfl,s⟩
end Go.Proofs.YtamacmnikdejeaaGreatDoor.Vp
