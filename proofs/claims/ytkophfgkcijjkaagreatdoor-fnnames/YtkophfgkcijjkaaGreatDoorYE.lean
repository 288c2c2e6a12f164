import Derived.Test.YtkophfgkcijjkaaGreatDoorZC
import Derived.RangeFuncNested
import Derived.RangeFuncBound
import Derived.RangeFuncCalls
import Derived.RangeFuncLeaves
import Derived.Shelf.Abstract
import Derived.Shelf.RegionOpen
import Derived.OwnWalkIn
import Derived.TacticsInMore
import Derived.LoopNIn
import Derived.LoopIn
import Derived.Sort.QuietIn
import Derived.Sort.BigQuietIn
import Derived.Sort.CutIn
import Derived.Test.YtkophfgkcijjkaaGreatDoorZF
import Derived.Maps.OwnSet
import Derived.Maps.Views
import Derived.StringKeys
set_option maxRecDepth 100000
set_option maxHeartbeats 4000000
namespace Go.Proofs.YtkophfgkcijjkaaGreatDoor.Vp
open RowKit
theorem xK {f:Nat->ar}{k:Nat}{D:DataW Unit}(b:Maps.IsMap D)(h:∀ p,Maps.has D (.string (f p).name.data.toList)=!aS f p k)(d:DataW Unit):∀ p,Maps.has (D.put (.string (f k).name.data.toList) d) (.string (f p).name.data.toList)=!aS f p (k+1):=by
 intro p;rw[aS,Bool.not_and,<-h p,Bool.not_not];by_cases e:(f p).name.data.toList=(f k).name.data.toList
 ·rw[e,Maps.has_put_same b (by simp[WideAt.IsKeyLit])]
  simp[ByteArray.toList_eq,e]
 ·rw[Maps.has_put_other (by simpa using e)]
  have:((f k).name.toList == (f p).name.toList)=false:=by simpa[ByteArray.toList_eq] using fun h=>e (by rw[h])
  rw[this];simp
theorem oy (b off n cap:Nat)(f:Nat->ar)(w:World)(hn:(n:Int)<=400)(U:RowDeed w b off n f)(R:∀ i,i<n->(f i).name.size<=maxLen):Calls Tryz.prog 102 #[.agg #[.slice (some ⟨b,off,none⟩) n cap]] w fun e w'=>e=.returned (.int .i64 (aG (fun p=>aS f p p) n))/\Below w.heap.size w w':=by
 have HF:=ae U;have Y:=ae R;clear U R;have N:=ae (((q9 w).alloc ly (.cells #[.slice (some ⟨b,off,none⟩) n cap] 59)).alloc (by simp) (.map #[] 0));have B:=ae (World.ownsMap_made (w.alloc (.cells #[.slice (some ⟨b,off,none⟩) n cap] 59)) Tryz.prog 9 (plainElem (H:=Unit) Tryz.prog 3));have hz:(w.alloc (.cells #[.slice (some ⟨b,off,none⟩) n cap] 59)).heap.size=w.heap.size+1:=by simp
 rw[hz] at B;clear hz;obtain⟨r,I⟩:∃ r,r=aG (fun p=>aS f p p) n:=⟨_,rfl⟩
 rw[<-I];have M:=ae I;clear I;have L:=@run_makeMap Tryz.prog;go_enter Tryz.func102,Tryz.ntmps102;go_wp2;clear L;generalize (w.alloc (.cells #[.slice (some ⟨b,off,none⟩) n cap] 59)).alloc (.map #[] 0)=W at N B ⊢;obtain⟨m,y⟩:∃ m,m=w.heap.size+1:=⟨_,rfl⟩
 rw[<-y] at B ⊢;have O:=ae y;clear y;go_loopw [12] (fun i wr=>∃ (k:Nat) (D:DataW Unit),k<=n/\i=.int .i64 k/\Hid (∀ j,j<k->aS f j j=true)/\Hid (wr.ownsMap Tryz.prog 9 (plainElem (H:=Unit) Tryz.prog 3) m k D)/\Hid (∀ p,Maps.has D (.string (f p).name.data.toList)=!aS f p k)/\Hid (Below w.heap.size w wr)) (fun i _=>n - (intOf i).toNat);case atStart=>exact⟨0,_,by omega,rfl,fun j T=>absurd T (Nat.not_lt_zero _),B.out,fun p=>rfl,N.out⟩
 case round =>
  obtain⟨k,D,hk,rfl,G,A,K,h⟩:=hrel;by_cases x:k<n
  ·obtain⟨p0,p1,p2,p3,⟨a0,q,p4,V⟩,⟨a1,z,p5,X⟩⟩:=(HF.out.below h.out ly).2 k x
   clear V X;have s:=WideMaps.keyOf_string_mk (P:=Tryz.prog) (k:=9) Tryz.underlying9 (Y.out k x);have g:=ae s;have C:=ae (K.out k);clear s;cases hnew:aS f k k with
   | false =>
    have t:Maps.has D (.string (f k).name.data.toList)=true:=by rw[C.out,hnew];rfl
    have HHS:=ae t;obtain rfl:r=k:=by rw[M.out];exact eF x hnew G.out
    clear hnew;have J:=ae (h.out.alloc h.out.size (.cells #[.string (f k).name,.int .i64 (f k).kind,.int .i64 (f k).code,.string (f k).text,.slice a0 (f k).actN q,.slice a1 (f k).linksN z] 67));go_wp2_with (at_lookup;refine wpList_lookup_own_ok_int _ rfl _ _ 215 rfl 9 3 .i64 (Maps.string_keyed Tryz.underlying9) Tryz.underlying215 Tryz.underlying3 (Tryz.zeroValue3 _) m k D rfl (A.out.alloc _) _ _ rfl g.out ?_;intro c u o;clear u o);go_ret;exact⟨rfl,J.out⟩
   | true =>
    have t:Maps.has D (.string (f k).name.data.toList)=false:=by rw[C.out,hnew];rfl
    have S:=ae hnew;clear hnew;have E:(Lit.int .i64 (k:Int)).wf=true:=by simp only[Lit.wf,IntKind.min,IntKind.max,IntKind.signed,IntKind.bits,Bool.and_eq_true,decide_eq_true_eq,if_true];omega
    have Q:=ae E;clear E
    go_wp2_with (first
     | (at_lookup;refine wpList_lookup_own_ok_int _ rfl _ _ 215 rfl 9 3 .i64 (Maps.string_keyed Tryz.underlying9) Tryz.underlying215 Tryz.underlying3 (Tryz.zeroValue3 _) m k D rfl (A.out.alloc _) _ _ rfl g.out ?_;intro c u o;clear u o)
     | (at_mapUpdate;refine wpList_mapUpdate_own _ rfl _ _ _ 215 rfl 9 3 (Maps.string_keyed Tryz.underlying9) Tryz.underlying215 _ m k D rfl (A.out.alloc _) (by unfold maxLen;omega) _ _ _ rfl rfl g.out _ [] (plainElem_int Tryz.underlying3 Q.out) ?_;intro w1 l d;have Z:=ae l;have J:=ae (bg (h.out.alloc h.out.size (.cells #[.string (f k).name,.int .i64 (f k).kind,.int .i64 (f k).code,.string (f k).text,.slice a0 (f k).actN q,.slice a1 (f k).linksN z] 67)) d (by have:=h.out.size;simp;omega) (fun j e=>by cases e;have:=O.out;omega));clear l d))
    exact⟨⟨k+1,_,by omega,by go_num,fun j T=>by
     by_cases e:j=k
     ·subst e;exact S.out
     ·exact G.out j (by omega),Z.out,xK A.out.isMap K.out _,J.out⟩,by simp[intOf];omega⟩
  ·have e:n=k:=by omega
   subst e;obtain rfl:r=-1:=by rw[M.out];exact ez G.out
   go_wp2;go_ret;exact⟨rfl,h.out⟩
end Go.Proofs.YtkophfgkcijjkaaGreatDoor.Vp
namespace Go.Proofs.YtkophfgkcijjkaaGreatDoor.Vp
open RowKit Go.Shelf Ca
attribute [local go_sem] Oper.semAt_some
structure LSt (w0 W:World)(n1 b off n cap L M l:Nat)(s:Nat->Bool):Prop where
 c0:W.cell? ⟨L,0,none⟩=some (.slice (some ⟨b,off,none⟩) n cap)
 c1:W.cell? ⟨L,1,none⟩=some (.slice (some ⟨M,0,none⟩) n n)
 c2:W.cell? ⟨L,2,none⟩=some (.func (.yield l) #[] #[])
 row:∀ q,q<n->W.cell? ⟨M,q,none⟩=some (.bool (s q))/\W.frozen? ⟨M,q,none⟩=false
 low:Below w0.heap.size w0 W
 hL:n1<=L/\L<W.heap.size
 hM:n1<=M/\M<W.heap.size
 ne:L≠M
 hb:w0.heap.size<=n1
 tyM:OfTy W M 4
 tyL:OfTy W L 269
theorem LSt.blocks {f W d:World}{n1 b off n cap L M l:Nat}{s:Nat->Bool}(h:LSt f W n1 b off n cap L M l s)(hz:W.heap.size<=d.heap.size)(j:d.heap[L]?=W.heap[L]?)(g:d.heap[M]?=W.heap[M]?)(k:Below f.heap.size f d):LSt f d n1 b off n cap L M l s:=by have c:∀ o,d.cell? ⟨L,o,none⟩=W.cell? ⟨L,o,none⟩:=fun o=>cq (a:=⟨L,o,none⟩) j;exact⟨(c 0).trans h.c0,(c 1).trans h.c1,(c 2).trans h.c2,fun q i=>⟨(cq (a:=⟨M,q,none⟩) g).trans (h.row q i).1,(World.frozen?_of_block (a:=⟨M,q,none⟩) g).trans (h.row q i).2⟩,k,⟨h.hL.1,lj h.hL.2 hz⟩,⟨h.hM.1,lj h.hM.2 hz⟩,h.ne,h.hb,h.tyM.eq g,h.tyL.eq j⟩
theorem LSt.below {d W c:World}{n1 b off n cap L M l:Nat}{s:Nat->Bool}(h:LSt d W n1 b off n cap L M l s)(hb:Below W.heap.size W c):LSt d c n1 b off n cap L M l s :=
 h.blocks hb.size (hb.block L h.hL.2) (hb.block M h.hM.2) (h.low.trans (hb.mono h.low.size))
theorem LSt.upd {d W g:World}{n1 b off n cap L M l:Nat}{s:Nat->Bool}{T:TypeId}(f:T≠4/\T≠269)(h:LSt d W n1 b off n cap L M l s)(c:Upd2 T d.heap.size n1 W g):LSt d g n1 b off n cap L M l s :=
 h.blocks c.size (c.block L h.hL.2 (.inr ⟨h.hL.1,h.tyL.ne f.2⟩)) (c.block M h.hM.2 (.inr ⟨h.hM.1,h.tyM.ne f.1⟩)) (h.low.trans (c.below h.low.size))
theorem LSt.set {f W:World}{n1 b off n cap L M l p:Nat}{s:Nat->Bool}(h:LSt f W n1 b off n cap L M l s)(hp:p<n):LSt f (W.setCell ⟨M,p,none⟩ (.bool true)) n1 b off n cap L M l (put s p):=by
 have c:∀ o,(W.setCell ⟨M,p,none⟩ (.bool true)).cell? ⟨L,o,none⟩=W.cell? ⟨L,o,none⟩:=fun o=>sq _ _ _ _ (by simp;exact fun e=>absurd e.symm h.ne);refine⟨(c 0).trans h.c0,(c 1).trans h.c1,(c 2).trans h.c2,fun q d=>⟨?_,by simpa using(h.row q d).2⟩,h.low.setCell (by have:=h.hM.1;have:=h.hb;show _<=M;omega) _,by simpa using h.hL,by simpa using h.hM,h.ne,h.hb,h.tyM.set _ _,h.tyL.set _ _⟩;by_cases e:q=p
 ·subst e
  rw[World.cell?_setCell_same' _ _ _ (by rw[(h.row q d).1];rfl)];simp[put]
 ·rw[sq _ _ _ _ (by simp),(h.row q d).1]
  simp[put,e]
theorem lN {go:Nat->Nat->(Nat->Bool)->(Nat->Bool) × List (Nat × Nat)}{x:ar}{d:Nat}{s:Nat->Bool}{i m:Nat}(h:i<=m):(lks go x d s i).2 <+: (lks go x d s m).2:=by
 induction m with
 | zero =>
  obtain rfl:i=0:=by omega
  exact List.prefix_rfl
 | succ k b =>
  by_cases e:i=k+1
  ·subst e;exact List.prefix_rfl
  ·refine(b (by omega)).trans ?_
   rw[lks];split
   ·exact List.prefix_append _ _
   ·exact List.prefix_rfl
theorem xL {T:TypeId}(hT:T≠4/\T≠269)(O:World)(n1 b off n cap L M l:Nat)(G:List (Nat × Nat))(f:Nat->ar)(J U:List (Nat × Nat)->World->Prop)(hA:fa f n)(hn:(n:Int)<=400)(hf:RowDeed O b off n f)(hlk:∀ p,p<n->(f p).linksN<=200)
  (hJ:∀ s A C,J s A->Itr 4 n1 A C->J s C) (n8:∀ s A C,U s A->Itr 4 n1 A C->U s C)
  (hY:∀ m pre (x:Nat × Nat) W,x.1<n->J pre W->pre++[x] <+: G->n1<=W.heap.size->YieldAt Fence.wide m Tryz.prog l #[.int .i64 (x.1:Int),.int .i64 (x.2:Int)] W fun e B =>
   (e=.returned (.bool true)/\J (pre++[x]) B/\Upd2 T O.heap.size n1 W B)∨(e=.returned (.bool false)/\U (pre++[x]) B)) :
  ∀ (k p d:Nat) (s:Nat->Bool) (pre:List (Nat × Nat)) (W:World) (H:Nat),p<k->p<n->d+p<=1000->LSt O W n1 b off n cap L M l s->s p=false->J pre W->pre++(lst f k p d s).2 <+: G ->
   CallsIn Fence.wide H Tryz.prog 203 #[.pointer (some ⟨L,0,none⟩),.int .i64 (p:Int),.int .i64 (d:Int)] W fun e B =>(e=.returned (.bool true)/\J (pre++(lst f k p d s).2) B/\LSt O B n1 b off n cap L M l (lst f k p d s).1)∨(e=.returned (.bool false)/\∃ q,q <+: (lst f k p d s).2/\U (pre++q) B):=by
 intro k;induction k with
 | zero=>intro p d s pre W H h;omega
 | succ k ih =>
  intro p d s pre W H hpk E hdp hS hs ld hN;have HS:=ae hS;have ur:=ae ld;have HN:=ae hN;have zI:=ae ih;have HY:=ae hY;have HJ:=ae hJ;have HJx:=ae n8;have HA:=ae hA;have HF:=ae hf;obtain⟨_,_,_,_,_,⟨a1,cap1,la,q5⟩⟩:=hf.2 p E;have p5:=(hS.low.cell (p:=⟨b,off+p*6+5,none⟩) hf.1).trans la;obtain⟨m,Q⟩:∃ m,m=(f p).linksN:=⟨_,rfl⟩
  have hm2:m<=200:=by rw[Q];exact hlk p E
  rw[<-Q] at p5 q5;have HL:=ae q5;have HM:=ae Q;have e0:=hS.c0;obtain⟨K,hK⟩:∃ K,K=lks (lst f k) (f p) d s:=⟨_,rfl⟩
  have I:Hid (lst f (k+1) p d s=(put (K m).1 p,(K m).2++[(p,d)])):=by rw[hK,Q];rfl
  have ro:Hid (K 0=(s,[])):=by rw[hK];rfl
  have zJ:Hid (∀ j,K (j+1)=if ((f p).links j).ask=true/\(K j).1 ((f p).links j).at_.toNat=false then ((lst f k ((f p).links j).at_.toNat (d+1) (K j).1).1,(K j).2++(lst f k ((f p).links j).at_.toNat (d+1) (K j).1).2) else K j):=fun j=>by rw[hK];rfl
  have zF:Hid (∀ i,i<=m->(K i).2 <+: (K m).2):=fun i hi=>by rw[hK];exact lN hi
  clear hS ld hN ih hY hJ n8 hA hf q5 Q hlk la hK;refine callsIn_of_wp Tryz.func203 rfl trivial ?_ rfl;simp only[Tryz.ntmps203,List.size_toArray,List.length_cons,List.length_nil,Nat.reduceAdd,Nat.reduceSub,Array.replicate_succ,Array.replicate_zero,List.push_toArray,List.append_toArray,List.nil_append,List.cons_append];gi_wp2;clear e0 p5;gi_loopw [18] (fun i wr=>∃ j:Nat,j<=m/\i=.int .i64 j/\Hid (LSt O wr n1 b off n cap L M l (K j).1)/\Hid (J (pre++(K j).2) wr)) (fun i _=>m - (intOf i).toNat);case atStart=>exact⟨0,by omega,rfl,by rw[ro.out];exact HS.out,by rw[ro.out,List.append_nil];exact ur.out⟩
  case round =>
   obtain⟨j,hj,rfl,c,n9⟩:=hrel;by_cases zD:j<m
   ·obtain⟨lb,lo,rfl,bt⟩:=(HL.out.below c.out.low ly).resolve_left (by omega)
    obtain⟨d0,d1,d2,d3⟩:=bt.2 j zD;clear bt;have Y:=zJ.out j;have aq:=HA.out p E j (by have:=HM.out;omega);generalize (f p).links j=x at d0 d1 d2 d3 Y aq;have R:=ae Y;clear Y;have D:=ae (c.out.below (br.alloc ly (.cells #[.string x.name,.bool x.ask,.bool x.has,.int .i64 x.at_] 73)));have Z:=ae (HJ.out _ _ _ n9.out (Itr.of_below ((q9 wr).alloc ly (.cells #[.string x.name,.bool x.ask,.bool x.has,.int .i64 x.at_] 73)) ly (by have:=c.out.hL;omega)));have e1:(wr.alloc (.cells #[.string x.name,.bool x.ask,.bool x.has,.int .i64 x.at_] 73)).cell? ⟨wr.heap.size,1,none⟩=some (.bool x.ask):=by simp
    have e3:(wr.alloc (.cells #[.string x.name,.bool x.ask,.bool x.has,.int .i64 x.at_] 73)).cell? ⟨wr.heap.size,3,none⟩=some (.int .i64 x.at_):=by simp
    have sm:=ae aq;clear aq;gi_upto_region 4 with fail;clear d0 d1 d2 d3;generalize wr.alloc (.cells #[.string x.name,.bool x.ask,.bool x.has,.int .i64 x.at_] 73)=u at D Z e1 e3 ⊢;generalize wr.heap.size=X at e1 e3 ⊢;cases hask:x.ask with
    | false =>
     have g:K (j+1)=K j:=by rw[R.out,if_neg (by rw[hask];simp)]
     have o:=ae g;clear g;rw[hask] at e1;have zE:∀ f,Fence.wide.fn f=True:=fun _=>rfl;gi_quiet (fail);have P:=ae (D.out.below (below_drewN (q9 u) nq));have J2:=ae (HJ.out _ _ _ Z.out (Itr.of_below (below_drewN (q9 u) nq) ly (by have:=D.out.hL;omega)));gi_wp2;exact⟨⟨j+1,by omega,by go_num,by rw[o.out];exact P.out,by rw[o.out];exact J2.out⟩,by simp[intOf];omega⟩
    | true =>
     obtain⟨q,S⟩:∃ q:Nat,x.at_=(q:Int):=⟨x.at_.toNat,by have:=(sm.out hask).2;omega⟩
     have hqp:q<p:=by have:=(sm.out hask).1;rw[S] at this;simpa using this
     rw[S] at e3;rw[hask] at e1;have f1:=D.out.c1;obtain⟨f2,_⟩:=D.out.row q (by omega);have hq0:(0:Int)<=q:=by omega
     have hqn:(q:Int)<n:=by omega
     have zE:∀ f,Fence.wide.fn f=True:=fun _=>rfl;cases hl:(K j).1 q with
     | true =>
      have g:K (j+1)=K j:=by rw[R.out,if_neg (by rw[S];simp[hl])]
      have o:=ae g;clear g;rw[hl] at f2;gi_quiet (fail);have P:=ae (D.out.below (below_drewN (q9 u) nq));have J2:=ae (HJ.out _ _ _ Z.out (Itr.of_below (below_drewN (q9 u) nq) ly (by have:=D.out.hL;omega)));gi_wp2;exact⟨⟨j+1,by omega,by go_num,by rw[o.out];exact P.out,by rw[o.out];exact J2.out⟩,by simp[intOf];omega⟩
     | false =>
      have g:K (j+1)=((lst f k q (d+1) (K j).1).1,(K j).2++(lst f k q (d+1) (K j).1).2):=by rw[R.out,if_pos ⟨hask,by rw[S];simpa using hl⟩,S];simp
      have o:=ae g;have V:=zF.out (j+1) (by omega);rw[g] at V;have mv:=ae V;have ex:((d+1:Nat):Int)=(d:Int)+1:=by omega
      have HC:Hid (∀ W2 H,LSt O W2 n1 b off n cap L M l (K j).1->J (pre++(K j).2) W2->CallsIn Fence.wide H Tryz.prog 203 #[.pointer (some ⟨L,0,none⟩),.int .i64 (q:Int),.int .i64 ((d:Int)+1)] W2 fun e B =>
        ∃ r:Bool,e=.returned (.bool r)/\Hid ((r=true/\J (pre++(K (j+1)).2) B/\LSt O B n1 b off n cap L M l (K (j+1)).1)∨(r=false/\∃ q,q <+: (K m).2++[(p,d)]/\U (pre++q) B))):=by
       intro W2 H h1 h2;have N:(pre++(K j).2)++(lst f k q (d+1) (K j).1).2 <+: G:=by have t:=HN.out;rw[I.out] at t;obtain⟨z,hz⟩:=t;obtain⟨y,hy⟩:=mv.out;exact⟨y++[(p,d)]++z,by rw[<-hz];simp only[];rw[<-hy];simp⟩
       have h:=zI.out q (d+1) (K j).1 (pre++(K j).2) W2 H (by omega) (by omega) (by omega) h1 hl h2 N;rw[ex] at h;refine h.mono fun e B h=>?_;rcases h with ⟨he,hj,hs⟩ | ⟨he,q',zK,hx⟩
       ·exact⟨true,he,.inl ⟨rfl,by rw[o.out,<-List.append_assoc];exact hj,by rw[o.out];exact hs⟩⟩
       ·refine⟨false,he,.inr ⟨rfl,(K j).2++q',?_,by rw[<-List.append_assoc];exact hx⟩⟩
        obtain⟨z,hz⟩:=zK;obtain⟨y,hy⟩:=mv.out;exact⟨z++y++[(p,d)],by rw[<-hy,<-hz];simp⟩
      have zL:=ae (D.out.below ((q9 u).drew));have zG:=ae (HJ.out _ _ _ Z.out (Itr.of_below (q9 u).drew ly (by have:=D.out.hL;omega)));have hwr:IntKind.i64.wrap ((d:Int)+1)=(d:Int)+1:=by rw[IntKind.wrap_i64];omega
      clear g V;rw[hl] at f2;gi_region_with ((try refine⟨fun h=>(by cases h),?_⟩);gi_at_call 203;refine(HC.out _ _ ?_ ?_).mono ?_;(first | exact zL.out | exact D.out);(first | exact zG.out | exact Z.out);rintro e W3 ⟨r,rfl,H3⟩);all_goals
       cases r with
       | true =>have t:=H3.out.resolve_right (fun h=>by cases h.1);have S3:=ae t.2.2;have J3:=ae t.2.1;clear t H3;gi_wp2;exact⟨⟨j+1,by omega,by go_num,S3.out,J3.out⟩,by simp[intOf];omega⟩
       | false =>have t:=H3.out.resolve_left (fun h=>by cases h.1);have X3:=ae t.2;clear t H3;gi_wp2;go_ret;rw[I.out];exact .inr ⟨rfl,X3.out⟩
   ·have e:m=j:=by omega
    subst e;have P:=ae (c.out.set E);have J2:=ae (HJ.out _ _ _ n9.out (Itr.setCell wr (p:=⟨M,p,none⟩) c.out.hM.1 c.out.tyM (.bool true)));have N:(pre++(K m).2)++[(p,d)] <+: G:=by have t:=HN.out;rw[I.out] at t;simpa using t
    have zH:=HY.out (H - 1) (pre++(K m).2) (p,d) _ E J2.out N (by have:=c.out.hL;simp;omega);obtain⟨fn,tmps,assign,body,hy,hR⟩:=zH;dsimp only at hy;have HR:=ae hR;clear hR;have g1:=c.out.c1;obtain⟨g3,g4⟩:=c.out.row p E;have g2:=P.out.c2;have hp0:(0:Int)<=p:=by omega
    have hpn':(p:Int)<n:=by omega
    gi_wp2;refine⟨fun h=>(by cases h),HR.out.mono ?_⟩;rintro e W3 (⟨rfl,qr,th⟩ | ⟨rfl,fd⟩)
    ·have J3:=ae qr
     have S3:=ae (P.out.upd hT th);clear qr th;gi_wp2;go_ret;rw[I.out];exact .inl ⟨rfl,by rw[<-List.append_assoc];exact J3.out,S3.out⟩
    ·have X3:=ae fd
     clear fd;gi_wp2;go_ret;rw[I.out];exact .inr ⟨rfl,_,List.prefix_rfl,by rw[<-List.append_assoc];exact X3.out⟩
attribute [local go_sem] Oper.semAt_some
theorem vM {F:Fence}(i:F.depth=none){m b:Nat}{P:Program}{l:Nat}{f:FuncId}{tmps:Array Value}{assign body:Code}{w:World}{R:Ending->World->Prop}
  (h:RoundIn F m P l f tmps assign body w R):RoundIn F b P l f tmps assign body w R:=⟨h.1,fun c g _=>h.2 c g (fun d h=>by rw[i] at h;cases h)⟩
theorem vN {F:Fence}(d:F.depth=none){m:Nat}(b:Nat){P:Program}{l:Nat}{args:Array Value}{W:World}{R:Ending->World->Prop}(h:YieldAt F m P l args W R):YieldAt F b P l args W R:=by obtain⟨fn,tmps,assign,body,c,hR⟩:=h;exact⟨fn,tmps,assign,body,c,vM d hR⟩
theorem vO:(Tryz.prog.info? 4).map (fun i=>(i.zero,i.size,i.bytes))=some (some (.bool false),1,1):=by kernel_rfl
def bc (n:Nat):Array Value:=madeCells (Value.bool false).cells n
theorem uh (n:Nat)(hn:n<=1048576)(w:World):(Instr.makeSlice 161 (.int .i64 (n:Int)) (.int .i64 (n:Int))).run Tryz.prog w=.ok (.slice (some ⟨w.heap.size,0,none⟩) n n) (w.alloc (.cells (bc n) 4)):=by obtain⟨i,hi,hz⟩:=Option.map_eq_some_iff.1 vO;simp only[Prod.mk.injEq] at hz;obtain⟨c,d,b⟩:=hz;have h:=run_make (P:=Tryz.prog) w 161 4 i _ Tryz.underlying161 hi c .i64 .i64 n n (by omega) (Int.le_refl _) (by rw[b];omega) (by omega);rw[d] at h;simpa[bc] using h
theorem pd (n q:Nat)(h:q<n):(bc n)[q]?=some (.bool false):=by unfold bc madeCells;simp[Value.cells,h,Nat.mod_one]
theorem lO (W:World)(n q:Nat)(h:q<n):(W.alloc (.cells (bc n) 4)).cell? ⟨W.heap.size,q,none⟩=some (.bool false)/\(W.alloc (.cells (bc n) 4)).frozen? ⟨W.heap.size,q,none⟩=false:=by
 have e:=heap_alloc_new W (.cells (bc n) 4);refine⟨?_,?_⟩
 ·rw[cell_of_row _ _ _ _ _ _ e]
  exact pd n q h
 ·unfold World.frozen?
  rw[e];simp
theorem vP {d W:World}{b off n cap l:Nat}(c:Below d.heap.size d W):LSt d ((W.alloc (.cells (bc n) 4)).alloc (.cells #[.slice (some ⟨b,off,none⟩) n cap,.slice (some ⟨W.heap.size,0,none⟩) n n,.func (.yield l) #[] #[]] 269)).drew W.heap.size b off n cap (W.heap.size+1) W.heap.size l (fun _=>false):=by
 have hz:(W.alloc (.cells (bc n) 4)).heap.size=W.heap.size+1:=by simp
 have D:Below (W.heap.size+1) (W.alloc (.cells (bc n) 4)) ((W.alloc (.cells (bc n) 4)).alloc (.cells #[.slice (some ⟨b,off,none⟩) n cap,.slice (some ⟨W.heap.size,0,none⟩) n n,.func (.yield l) #[] #[]] 269)).drew:=(br.alloc (by omega) _).drew;refine⟨?_,?_,?_,fun q f=>?_,((c.alloc c.size _).alloc (by simp;have:=c.size;omega) _).drew,by simp,by simp;omega,by omega,c.size,?_,?_⟩
 ·simp
 ·simp
 ·simp
 ·exact⟨(D.cell (p:=⟨W.heap.size,q,none⟩) (Nat.lt_succ_self _)).trans (lO W n q f).1,(D.frozen (p:=⟨W.heap.size,q,none⟩) (Nat.lt_succ_self _)).trans (lO W n q f).2⟩
 ·exact(OfTy.new W _ _).eq (D.block _ (Nat.lt_succ_self _))
 ·have h:=OfTy.new (W.alloc (.cells (bc n) 4)) #[.slice (some ⟨b,off,none⟩) n cap,.slice (some ⟨W.heap.size,0,none⟩) n n,.func (.yield l) #[] #[]] 269
  rw[hz] at h;exact h.eq rfl
theorem vQ {d W:World}{b off n cap l:Nat}(c:Below d.heap.size d W):LSt d ((W.alloc (.cells #[.slice (some ⟨b,off,none⟩) n cap,.slice (some ⟨W.heap.size+1,0,none⟩) n n,.func (.yield l) #[] #[]] 269)).alloc (.cells (bc n) 4)).drew W.heap.size b off n cap W.heap.size (W.heap.size+1) l (fun _=>false):=by
 have hz:(W.alloc (.cells #[.slice (some ⟨b,off,none⟩) n cap,.slice (some ⟨W.heap.size+1,0,none⟩) n n,.func (.yield l) #[] #[]] 269)).heap.size=W.heap.size+1:=by simp
 have D:Below (W.heap.size+1) (W.alloc (.cells #[.slice (some ⟨b,off,none⟩) n cap,.slice (some ⟨W.heap.size+1,0,none⟩) n n,.func (.yield l) #[] #[]] 269)) ((W.alloc (.cells #[.slice (some ⟨b,off,none⟩) n cap,.slice (some ⟨W.heap.size+1,0,none⟩) n n,.func (.yield l) #[] #[]] 269)).alloc (.cells (bc n) 4)).drew:=(br.alloc (by omega) _).drew;refine⟨(D.cell (p:=⟨W.heap.size,0,none⟩) (Nat.lt_succ_self _)).trans (by simp),(D.cell (p:=⟨W.heap.size,1,none⟩) (Nat.lt_succ_self _)).trans (by simp),(D.cell (p:=⟨W.heap.size,2,none⟩) (Nat.lt_succ_self _)).trans (by simp),fun q f=>?_,((c.alloc c.size _).alloc (by simp;have:=c.size;omega) _).drew,by simp;omega,by simp,by omega,c.size,?_,?_⟩
 ·have h:=lO (W.alloc (.cells #[.slice (some ⟨b,off,none⟩) n cap,.slice (some ⟨W.heap.size+1,0,none⟩) n n,.func (.yield l) #[] #[]] 269)) n q f
  rw[hz] at h;exact h
 ·have h:=OfTy.new (W.alloc (.cells #[.slice (some ⟨b,off,none⟩) n cap,.slice (some ⟨W.heap.size+1,0,none⟩) n n,.func (.yield l) #[] #[]] 269)) (bc n) 4
  rw[hz] at h;exact h.eq rfl
 ·exact(OfTy.new W _ _).eq (D.block _ (Nat.lt_succ_self _))
theorem lP (v:Value)(w:World)(b:Nat):CallsIn Fence.wide b Tryz.prog 163 #[.agg #[v]] w fun e c=>e=.returned (.func (.func 202) #[] #[.pointer (some ⟨w.heap.size,0,none⟩)])/\c=w.alloc (.cells #[v] 59):=by refine callsIn_of_wp Tryz.func163 rfl trivial ?_ rfl;simp only[Tryz.ntmps163,List.size_toArray,List.length_cons,List.length_nil,Nat.reduceAdd,Nat.reduceSub,Array.replicate_succ,Array.replicate_zero,List.push_toArray,List.append_toArray,List.nil_append,List.cons_append];gi_wp2;go_ret;exact⟨rfl,rfl⟩
theorem pi {T:TypeId}(hT:T≠4/\T≠269)(d:World)(b off n cap j z:Nat)(f:Nat->ar)(w:World)(hA:fa f n)(hn1:1<=n)(hn:(n:Int)<=400)(hf:RowDeed d b off n f)(hlk:∀ p,p<n->(f p).linksN<=200)(c:Below d.heap.size d w)(A:w.cell? ⟨j,0,none⟩=some (.slice (some ⟨b,off,none⟩) n cap))(o:j<w.heap.size):SeqT2 T 4 Fence.wide z Tryz.prog 202 #[.pointer (some ⟨j,0,none⟩)] (fun x:Nat × Nat=>#[Value.int .i64 (x.1:Int),Value.int .i64 (x.2:Int)]) (fun pre x=>x.1<n/\pre++[x] <+: aE f n) d.heap.size (fun i=>i=aE f n) (fun pre=>pre <+: aE f n) w:=by
 intro l J I W u Y D R y;have hl:=xL hT d W.heap.size b off n cap;have G:=ae hl;clear hl;have Z:=(u.cell (p:=⟨j,0,none⟩) o).trans A;have bt:=fun w=>uh n (by omega) w;have hwb:IntKind.i64.wrap ((n:Int) - 1)=(n:Int) - 1:=by rw[IntKind.wrap_i64];omega
 have N:=ae Y;have E:=ae D;have V:=ae R;have Q:=ae y;have HA:=ae hA;have X:=ae hf;have C:=ae hlk;have g:=ae (c.trans (u.mono c.size));have aq:j<W.heap.size:=lj o u.size;clear Y D R y hA hf hlk c u A o;refine callsIn_of_wp Tryz.func202 rfl trivial ?_ rfl;simp only[Tryz.ntmps202,List.size_toArray,List.length_cons,List.length_nil,Nat.reduceAdd,Nat.reduceSub,Array.replicate_succ,Array.replicate_zero,List.push_toArray,List.append_toArray,List.nil_append,List.cons_append];have B:∀ L M t,LSt d t W.heap.size b off n cap L M l (fun _=>false)->Below W.heap.size W t->CallsIn Fence.wide (z - 1) Tryz.prog 203 #[.pointer (some ⟨L,0,none⟩),.int .i64 ((n:Int) - 1),.int .i64 0] t fun e k =>
   ∃ r:Bool,e=.returned (.bool r)/\Hid ((∃ i,i=aE f n/\J i k)∨(∃ pre,pre <+: aE f n/\I pre k)):=by
  intro L M t O P;have h:=G.out L M l (aE f n) f J I HA.out hn X.out C.out N.out E.out (fun m pre x W1 y h1 h2 h3=>vN rfl m (V.out pre x W1 ⟨y,h2⟩ h1 h3)) n (n - 1) 0 (fun _=>false) [] t (z - 1) (by omega) (by omega) (by omega) O rfl (N.out _ _ _ Q.out (Itr.of_below P ly  ly)) (by simp[aE]);rw[show((n - 1:Nat):Int)=(n:Int) - 1 by omega] at h;refine h.mono fun e k h=>?_;rcases h with ⟨H,hj,_⟩ | ⟨H,q,hq,hx⟩
  ·exact⟨true,H,.inl ⟨_,rfl,by simpa[aE] using hj⟩⟩
  ·exact⟨false,H,.inr ⟨q,hq,by simpa using hx⟩⟩
 have s:=ae B;have D1:=ae (((q9 W).alloc ly (.cells (bc n) 4)).alloc (by simp) (.cells #[.slice (some ⟨b,off,none⟩) n cap,.slice (some ⟨W.heap.size,0,none⟩) n n,.func (.yield l) #[] #[]] 269)).drew;have S:=ae (((q9 W).alloc ly (.cells #[.slice (some ⟨b,off,none⟩) n cap,.slice (some ⟨W.heap.size+1,0,none⟩) n n,.func (.yield l) #[] #[]] 269)).alloc (by simp) (.cells (bc n) 4)).drew;have hfw:∀ f,Fence.wide.fn f=True:=fun _=>rfl;clear B G N E V Q HA X C;gi_upto_region 0 with fail;gi_cut [3] from 4 (fun s3 wx=>∃ L,s3=.pointer (some ⟨L,0,none⟩)/\Hid (∃ M,LSt d wx W.heap.size b off n cap L M l (fun _=>false))/\Hid (Below W.heap.size W wx));case first =>
  have hsf:=fun(w:World) (a:Addr) (m:Mode)=>run_store Tryz.prog w a (.func (.yield l) #[] #[]) m rfl;gi_region_with fail;all_goals
   gi_wp2_with fail;gi_meet;first
    | exact⟨W.heap.size+1,rfl,⟨W.heap.size,vP g.out⟩,D1.out⟩
    | exact⟨W.heap.size,rfl,⟨W.heap.size+1,vQ g.out⟩,S.out⟩
 case rest =>
 obtain⟨L,rfl,U,K⟩:=hcut;have hB1:=(K.out.cell (p:=⟨j,0,none⟩) aq).trans Z;have HC:Hid (CallsIn Fence.wide (z - 1) Tryz.prog 203 #[.pointer (some ⟨L,0,none⟩),.int .i64 ((n:Int) - 1),.int .i64 0] wc fun e k=>∃ r:Bool,e=.returned (.bool r)/\Hid ((∃ i,i=aE f n/\J i k)∨(∃ pre,pre <+: aE f n/\I pre k))):=by obtain⟨M,O⟩:=U.out;exact s.out L M wc O K.out
 clear s U bt K g D1 S Z;gi_wp2_with ((try refine⟨fun h=>(by cases h),?_⟩);gi_at_call 203;refine HC.out.mono ?_;rintro e W3 ⟨r,rfl,H3⟩);go_end0;exact⟨⟨_,rfl⟩,H3.out⟩
theorem kF (c:World)(b off n cap d j:Nat)(f:Nat->ar)(w:World)(m:fa f n)(hn1:1<=n)(hn:(n:Int)<=400)(o:RowDeed c b off n f)(hlk:∀ p,p<n->(f p).linksN<=200)(g:Below c.heap.size c w)(k:w.cell? ⟨d,0,none⟩=some (.slice (some ⟨b,off,none⟩) n cap))(i:d<w.heap.size):vk Fence.wide j Tryz.prog 202 #[.pointer (some ⟨d,0,none⟩)] (fun x:Nat × Nat=>#[Value.int .i64 (x.1:Int),Value.int .i64 (x.2:Int)]) (fun x=>x.1<n) c.heap.size (fun l=>l=aE f n) (fun pre=>pre <+: aE f n) (aE f n).length w :=
 (pi (T:=67) ⟨by decide,by decide⟩ c b off n cap d j f w m hn1 hn o hlk g k i).plain fun pre x h=>⟨h.1,by have:=h.2.length_le;simp at this;omega⟩
attribute [local go_sem] Oper.semAt_some
theorem lQ {i:Nat}{pre:List (Nat × Nat)}{x:Nat × Nat}(h:bj i pre=-1):bj i (pre++[x])=if x.1=i+pre.length then -1 else ((i+pre.length:Nat):Int):=by
 induction pre generalizing i with
 | nil=>simp[bj]
 | cons y b c =>
  simp only[bj,List.cons_append] at h ⊢;split at h
  ·rename_i e
   rw[if_pos e,c h];simp only[List.length_cons];have:i+1+b.length=i+(b.length+1):=by omega
   rw[this]
  ·omega
theorem pj {i:Nat}{pre b:List (Nat × Nat)}(c:pre <+: b)(h:bj i pre≠-1):bj i b=bj i pre:=by
 induction pre generalizing i b with
 | nil=>exact absurd rfl h
 | cons y ys d =>
  obtain⟨t,rfl⟩:=c;simp only[bj,List.cons_append] at h ⊢;split
  ·rename_i e
   rw[if_pos e] at h;exact d (List.prefix_append _ _) h
  ·rfl
theorem qN {f:Nat->ar}{pre:List (Nat × Nat)}{x:Nat × Nat}(h:aW f pre=-1):aW f (pre++[x])=if (f x.1).kind=3/\60<=x.2 then (x.1:Int) else -1:=by
 induction pre with
 | nil=>simp[aW]
 | cons y ys b =>
  simp only[aW,List.cons_append] at h ⊢;split at h
  ·omega
  ·rename_i e
   rw[if_neg e,b h]
theorem oz {f:Nat->ar}{pre b:List (Nat × Nat)}(c:pre <+: b)(h:aW f pre≠-1):aW f b=aW f pre:=by
 induction pre generalizing b with
 | nil=>exact absurd rfl h
 | cons y ys d =>
  obtain⟨t,rfl⟩:=c;simp only[aW,List.cons_append] at h ⊢;split
  ·rfl
  ·rename_i e
   rw[if_neg e] at h;exact d (List.prefix_append _ _) h
structure zm (W:World)(h:Nat)(v:Value):Prop where
 size:W.heap.size=h+4
 r:W.cell? ⟨h+1,0,none⟩=some (.int .i64 0)/\W.frozen? ⟨h+1,0,none⟩=false
 t:W.cell? ⟨h+1+1,0,none⟩=some (.int .i64 0)/\W.frozen? ⟨h+1+1,0,none⟩=false
 a:W.cell? ⟨h+1+1+1,0,none⟩=some v
 a0:W.cell? ⟨h,0,none⟩=some v
theorem sQ (w:World)(v:Value)(t u:TypeId):zm ((((w.alloc (.cells #[v] t)).alloc (.cells #[.int .i64 0] u)).alloc (.cells #[.int .i64 0] u)).alloc (.cells #[v] t)) w.heap.size v:=by
 have b:(w.alloc (.cells #[v] t)).heap.size=w.heap.size+1:=by simp
 have c:((w.alloc (.cells #[v] t)).alloc (.cells #[.int .i64 0] u)).heap.size=w.heap.size+1+1:=by simp
 have d:(((w.alloc (.cells #[v] t)).alloc (.cells #[.int .i64 0] u)).alloc (.cells #[.int .i64 0] u)).heap.size=w.heap.size+1+1+1:=by simp
 have h:Below (w.heap.size+1) (w.alloc (.cells #[v] t)) ((((w.alloc (.cells #[v] t)).alloc (.cells #[.int .i64 0] u)).alloc (.cells #[.int .i64 0] u)).alloc (.cells #[v] t)):=((br.alloc (by omega) _).alloc (by omega) _).alloc (by omega) _;have g:Below (w.heap.size+1+1) ((w.alloc (.cells #[v] t)).alloc (.cells #[.int .i64 0] u)) ((((w.alloc (.cells #[v] t)).alloc (.cells #[.int .i64 0] u)).alloc (.cells #[.int .i64 0] u)).alloc (.cells #[v] t)):=(br.alloc (by omega) _).alloc (by omega) _;have f:Below (w.heap.size+1+1+1) (((w.alloc (.cells #[v] t)).alloc (.cells #[.int .i64 0] u)).alloc (.cells #[.int .i64 0] u)) ((((w.alloc (.cells #[v] t)).alloc (.cells #[.int .i64 0] u)).alloc (.cells #[.int .i64 0] u)).alloc (.cells #[v] t)):=br.alloc (by omega) _;refine⟨by simp,⟨?_,?_⟩,⟨?_,?_⟩,?_,(h.cell (p:=⟨w.heap.size,0,none⟩) (Nat.lt_succ_self _)).trans (by simp)⟩
 ·refine(g.cell (p:=⟨w.heap.size+1,0,none⟩) (Nat.lt_succ_self _)).trans ?_
  rw[<-b];clear h g f b c d;generalize w.alloc (.cells #[v] t)=W;simp
 ·refine(g.frozen (p:=⟨w.heap.size+1,0,none⟩) (Nat.lt_succ_self _)).trans ?_
  rw[<-b];clear h g f b c d;generalize w.alloc (.cells #[v] t)=W;simp
 ·refine(f.cell (p:=⟨w.heap.size+1+1,0,none⟩) (Nat.lt_succ_self _)).trans ?_
  rw[<-c];clear h g f b c d;generalize (w.alloc (.cells #[v] t)).alloc (.cells #[.int .i64 0] u)=W;simp
 ·refine(f.frozen (p:=⟨w.heap.size+1+1,0,none⟩) (Nat.lt_succ_self _)).trans ?_
  rw[<-c];clear h g f b c d;generalize (w.alloc (.cells #[v] t)).alloc (.cells #[.int .i64 0] u)=W;simp
 ·rw[<-d]
  clear h g f b c d;generalize ((w.alloc (.cells #[v] t)).alloc (.cells #[.int .i64 0] u)).alloc (.cells #[.int .i64 0] u)=W;simp
theorem oA (b off n cap:Nat)(f:Nat->ar)(w:World)(Y:fa f n)(hn1:1<=n)(hn:(n:Int)<=400)(G:RowDeed w b off n f)(hlk:∀ p,p<n->(f p).linksN<=200)(hlen:(aE f n).length<=400):Calls Tryz.prog 103 #[.agg #[.slice (some ⟨b,off,none⟩) n cap]] w fun e V=>e=.returned (.int .i64 (bj 0 (aE f n)))/\Below w.heap.size w V:=by
 refine(callsIn_wide (n:=3)).1 ?_;have HF:=ae G;have Z:=ae Y;have X:=ae hlk;clear G Y hlk;have N:=((((q9 w).alloc ly (.cells #[.slice (some ⟨b,off,none⟩) n cap] 59)).alloc (by simp) (.cells #[.int .i64 0] 3)).alloc (by simp;omega) (.cells #[.int .i64 0] 3)).alloc (by simp;omega) (.cells #[.slice (some ⟨b,off,none⟩) n cap] 59);have Q:=ae N;clear N;have E:=ae (sQ w (.slice (some ⟨b,off,none⟩) n cap) 59 3);refine callsIn_of_wp_marks Tryz.func103 rfl trivial ?_ rfl;simp only[Tryz.ntmps103,List.size_toArray,List.length_cons,List.length_nil,Nat.reduceAdd,Nat.reduceSub,Array.replicate_succ,Array.replicate_zero,List.push_toArray,List.append_toArray,List.nil_append,List.cons_append];gi_wp2_with (refine⟨trivial,?_⟩;gi_at_call 163;refine(lP _ _ _).mono ?_;rintro e V ⟨rfl,rfl⟩);generalize (((w.alloc (.cells #[.slice (some ⟨b,off,none⟩) n cap] 59)).alloc (.cells #[.int .i64 0] 3)).alloc (.cells #[.int .i64 0] 3)).alloc (.cells #[.slice (some ⟨b,off,none⟩) n cap] 59)=W at Q E ⊢;have hsz:=E.out.size;obtain⟨H,J⟩:=E.out.r;obtain⟨L,I⟩:=E.out.t
 refine gI (F:=Fence.wide) rfl (by omega) (gf:=202) (lb:=#[.pointer (some ⟨w.heap.size+1+1+1,0,none⟩)]) rfl trivial (enters_of Tryz.func202 (by kernel_rfl) rfl) (base:=w.heap.size) (by omega)
  (kF w b off n cap (w.heap.size+1+1+1) (3 - 1) f W Z.out hn1 hn HF.out X.out Q.out E.out.a (by omega)) br (fun _=>rfl)
  (fun pre g=>g.cell? ⟨w.heap.size+1+1,0,none⟩=some (.int .i64 (pre.length:Int))/\g.frozen? ⟨w.heap.size+1+1,0,none⟩=false/\g.cell? ⟨w.heap.size+1,0,none⟩=some (.int .i64 0)/\g.frozen? ⟨w.heap.size+1,0,none⟩=false/\Hid (bj 0 pre=-1)/\Hid (Below w.heap.size w g))
  (fun c pre g=>c=.ret/\g.cell? ⟨w.heap.size+1,0,none⟩=some (.int .i64 (bj 0 pre))/\Hid (bj 0 pre≠-1)/\Hid (Below w.heap.size w g))
  (fun s A B h i=>⟨(i.cell (p:=⟨w.heap.size+1+1,0,none⟩) (by show w.heap.size+1+1<W.heap.size;omega)).trans h.1,(i.frozen (p:=⟨w.heap.size+1+1,0,none⟩) (by show w.heap.size+1+1<W.heap.size;omega)).trans h.2.1,(i.cell (p:=⟨w.heap.size+1,0,none⟩) (by show w.heap.size+1<W.heap.size;omega)).trans h.2.2.1,(i.frozen (p:=⟨w.heap.size+1,0,none⟩) (by show w.heap.size+1<W.heap.size;omega)).trans h.2.2.2.1,h.2.2.2.2.1,h.2.2.2.2.2.out.trans (i.mono (by omega))⟩)
  (fun c s A B h i=>⟨h.1,(i.cell (p:=⟨w.heap.size+1,0,none⟩) (by show w.heap.size+1<W.heap.size;omega)).trans h.2.1,h.2.2.1,h.2.2.2.out.trans (i.mono (by omega))⟩)
  ⟨L,I,H,J,rfl,Q.out⟩
  (fun x=>{ tmps:=#[.agg #[.slice (some ⟨b,off,none⟩) n cap],.pointer (some ⟨w.heap.size,0,none⟩),.pointer (some ⟨w.heap.size+1,0,none⟩),.pointer (some ⟨w.heap.size+1+1,0,none⟩),.int .i64 (x.1:Int),.agg #[.slice (some ⟨b,off,none⟩) n cap],.func (.func 202) #[] #[.pointer (some ⟨w.heap.size+1+1+1,0,none⟩)],.int .i64 (x.1:Int),.int .i64 (x.2:Int),undef,undef,undef,undef,undef,undef],defers:=[] }) ?assign ?body ?done ?stop
 case assign =>intro l x W K o;gi_wp2;exact o
 case body =>
  rintro l pre x d _ ⟨hc,G,q,M,m,u⟩ hlt hz;clear H J L I;have hpl:(pre.length:Int)<=1048576:=by omega
  by_cases hx:(x.1:Int)=(pre.length:Int)
  ·have y:bj 0 (pre++[x])=-1:=by rw[lQ m.out,if_pos (by omega)]
   have j:=ae y;clear y;have R:=ae (Upd.setCell (P:=fun k=>w.heap.size<=k/\k<W.heap.size) d (p:=⟨w.heap.size+1+1,0,none⟩) ⟨by show _<=_+1+1;omega,by show _+1+1<_;omega⟩ (.int .i64 ((pre.length:Int)+1)));have z:=ae (u.out.setCell (p:=⟨w.heap.size+1+1,0,none⟩) (by show _<=_+1+1;omega) (.int .i64 ((pre.length:Int)+1)));have c1:(d.setCell ⟨w.heap.size+1+1,0,none⟩ (.int .i64 ((pre.length:Int)+1))).cell? ⟨w.heap.size+1+1,0,none⟩=some (.int .i64 ((pre++[x]).length:Int)):=by rw[World.cell?_setCell_same' _ _ _ (by rw[hc];rfl)];simp
   have c2:(d.setCell ⟨w.heap.size+1+1,0,none⟩ (.int .i64 ((pre.length:Int)+1))).cell? ⟨w.heap.size+1,0,none⟩=some (.int .i64 0):=by rw[sq _ _ _ _ (by simp)];exact q
   have C:=ae c1;have C2:=ae c2;clear c1 c2;gi_wp2;exact⟨R.out,C.out,by simpa using G,C2.out,by simpa using M,j.out,z.out⟩
  ·have y:bj 0 (pre++[x])=(pre.length:Int):=by rw[lQ m.out,if_neg (by omega)];simp
   have j:=ae y;clear y;have R:=ae (Upd.setCell (P:=fun k=>w.heap.size<=k/\k<W.heap.size) d (p:=⟨w.heap.size+1,0,none⟩) ⟨by show _<=_+1;omega,by show _+1<_;omega⟩ (.int .i64 (pre.length:Int)));have z:=ae (u.out.setCell (p:=⟨w.heap.size+1,0,none⟩) (by show _<=_+1;omega) (.int .i64 (pre.length:Int)));have C:=ae (World.cell?_setCell_same' d ⟨w.heap.size+1,0,none⟩ (.int .i64 (pre.length:Int)) (by rw[q];rfl));gi_wp2;exact⟨R.out,rfl,by rw[j.out];exact C.out,by show _≠_;rw[j.out];omega,z.out⟩
 case done =>rintro U ys d S rfl ⟨_,_,q,M,m,u⟩ o;have T:=ae ((KeepsOthers.setCell d ⟨w.heap.size+1,0,none⟩ (.int .i64 (-1))).same U _ o rfl);have z:=ae (u.out.setCell (p:=⟨w.heap.size+1,0,none⟩) (by show _<=_+1;omega) (.int .i64 (-1)));have C:=ae (World.cell?_setCell_same' d ⟨w.heap.size+1,0,none⟩ (.int .i64 (-1)) (by rw[q];rfl));gi_wp2;refine⟨by simp,.inl ⟨_,_,rfl,run_takeDeferred T.out,?_⟩⟩;have D:=cT (n:=W.heap.size) (d.setCell ⟨w.heap.size+1,0,none⟩ (.int .i64 (-1))) S (Array.getElem?_eq_some_iff.1 T.out).1 (.deferred none);have c:=(D.cell (p:=⟨w.heap.size+1,0,none⟩) (by show w.heap.size+1<W.heap.size;omega)).trans C.out;exact⟨.int .i64 (-1),by simp[results,Tryz.results103,go_sem,c],by rw[m.out],z.out.trans (D.mono (by omega))⟩
 case stop =>rintro U c pre d S O ⟨rfl,q,m,u⟩ o;gi_wp2;refine⟨by simp,.inl ⟨_,_,rfl,run_takeDeferred o,?_⟩⟩;have D:=cT (n:=W.heap.size) d S (Array.getElem?_eq_some_iff.1 o).1 (.deferred none);have c:=(D.cell (p:=⟨w.heap.size+1,0,none⟩) (by show w.heap.size+1<W.heap.size;omega)).trans q;exact⟨.int .i64 (bj 0 pre),by simp[results,Tryz.results103,go_sem,c],by rw[pj O m.out],u.out.trans (D.mono (by omega))⟩
structure zn (W:World)(h:Nat)(v:Value):Prop where
 size:W.heap.size=h+3
 r:W.cell? ⟨h+1,0,none⟩=some (.int .i64 0)/\W.frozen? ⟨h+1,0,none⟩=false
 a:W.cell? ⟨h+1+1,0,none⟩=some v
 a0:W.cell? ⟨h,0,none⟩=some v
theorem sR (w:World)(v:Value)(t u:TypeId):zn (((w.alloc (.cells #[v] t)).alloc (.cells #[.int .i64 0] u)).alloc (.cells #[v] t)) w.heap.size v:=by
 have b:(w.alloc (.cells #[v] t)).heap.size=w.heap.size+1:=by simp
 have c:((w.alloc (.cells #[v] t)).alloc (.cells #[.int .i64 0] u)).heap.size=w.heap.size+1+1:=by simp
 have f:Below (w.heap.size+1) (w.alloc (.cells #[v] t)) (((w.alloc (.cells #[v] t)).alloc (.cells #[.int .i64 0] u)).alloc (.cells #[v] t)):=(br.alloc (by omega) _).alloc (by omega) _;have d:Below (w.heap.size+1+1) ((w.alloc (.cells #[v] t)).alloc (.cells #[.int .i64 0] u)) (((w.alloc (.cells #[v] t)).alloc (.cells #[.int .i64 0] u)).alloc (.cells #[v] t)):=br.alloc (by omega) _;refine⟨by simp,⟨?_,?_⟩,?_,(f.cell (p:=⟨w.heap.size,0,none⟩) (Nat.lt_succ_self _)).trans (by simp)⟩
 ·refine(d.cell (p:=⟨w.heap.size+1,0,none⟩) (Nat.lt_succ_self _)).trans ?_
  rw[<-b];clear f d b c;generalize w.alloc (.cells #[v] t)=W;simp
 ·refine(d.frozen (p:=⟨w.heap.size+1,0,none⟩) (Nat.lt_succ_self _)).trans ?_
  rw[<-b];clear f d b c;generalize w.alloc (.cells #[v] t)=W;simp
 ·rw[<-c]
  clear f d b c;generalize (w.alloc (.cells #[v] t)).alloc (.cells #[.int .i64 0] u)=W;simp
theorem qO (b off n cap:Nat)(f:Nat->ar)(w:World)(X:fa f n)(hn1:1<=n)(hn:(n:Int)<=400)(Y:RowDeed w b off n f)(hlk:∀ p,p<n->(f p).linksN<=200):Calls Tryz.prog 104 #[.agg #[.slice (some ⟨b,off,none⟩) n cap]] w fun e S=>e=.returned (.int .i64 (aW f (aE f n)))/\Below w.heap.size w S:=by
 refine(callsIn_wide (n:=3)).1 ?_;have T:=ae Y;have Z:=ae X;have V:=ae hlk;clear Y X hlk;have E:=(((q9 w).alloc ly (.cells #[.slice (some ⟨b,off,none⟩) n cap] 59)).alloc (by simp) (.cells #[.int .i64 0] 3)).alloc (by simp;omega) (.cells #[.slice (some ⟨b,off,none⟩) n cap] 59);have I:=ae E;clear E;have z:=ae (sR w (.slice (some ⟨b,off,none⟩) n cap) 59 3);refine callsIn_of_wp_marks Tryz.func104 rfl trivial ?_ rfl;simp only[Tryz.ntmps104,List.size_toArray,List.length_cons,List.length_nil,Nat.reduceAdd,Nat.reduceSub,Array.replicate_succ,Array.replicate_zero,List.push_toArray,List.append_toArray,List.nil_append,List.cons_append];gi_wp2_with (refine⟨trivial,?_⟩;gi_at_call 163;refine(lP _ _ _).mono ?_;rintro e S ⟨rfl,rfl⟩);generalize ((w.alloc (.cells #[.slice (some ⟨b,off,none⟩) n cap] 59)).alloc (.cells #[.int .i64 0] 3)).alloc (.cells #[.slice (some ⟨b,off,none⟩) n cap] 59)=W at I z ⊢;have hsz:=z.out.size;obtain⟨C,D⟩:=z.out.r;have O:=z.out.a0
 refine gI (F:=Fence.wide) rfl (by omega) (gf:=202) (lb:=#[.pointer (some ⟨w.heap.size+1+1,0,none⟩)]) rfl trivial (enters_of Tryz.func202 (by kernel_rfl) rfl) (base:=w.heap.size) (by omega)
  (kF w b off n cap (w.heap.size+1+1) (3 - 1) f W Z.out hn1 hn T.out V.out I.out z.out.a (by omega)) br (fun _=>rfl)
  (fun pre m=>m.cell? ⟨w.heap.size,0,none⟩=some (.slice (some ⟨b,off,none⟩) n cap)/\m.cell? ⟨w.heap.size+1,0,none⟩=some (.int .i64 0)/\m.frozen? ⟨w.heap.size+1,0,none⟩=false/\Hid (aW f pre=-1)/\Hid (Below w.heap.size w m))
  (fun c pre m=>c=.ret/\m.cell? ⟨w.heap.size+1,0,none⟩=some (.int .i64 (aW f pre))/\Hid (aW f pre≠-1)/\Hid (Below w.heap.size w m))
  (fun s A B h o=>⟨(o.cell (p:=⟨w.heap.size,0,none⟩) (by show w.heap.size<W.heap.size;omega)).trans h.1,(o.cell (p:=⟨w.heap.size+1,0,none⟩) (by show w.heap.size+1<W.heap.size;omega)).trans h.2.1,(o.frozen (p:=⟨w.heap.size+1,0,none⟩) (by show w.heap.size+1<W.heap.size;omega)).trans h.2.2.1,h.2.2.2.1,h.2.2.2.2.out.trans (o.mono (by omega))⟩)
  (fun c s A B h o=>⟨h.1,(o.cell (p:=⟨w.heap.size+1,0,none⟩) (by show w.heap.size+1<W.heap.size;omega)).trans h.2.1,h.2.2.1,h.2.2.2.out.trans (o.mono (by omega))⟩)
  ⟨O,C,D,rfl,I.out⟩
  (fun x=>{ tmps:=#[.agg #[.slice (some ⟨b,off,none⟩) n cap],.pointer (some ⟨w.heap.size,0,none⟩),.pointer (some ⟨w.heap.size+1,0,none⟩),.int .i64 (x.1:Int),.int .i64 (x.2:Int),.agg #[.slice (some ⟨b,off,none⟩) n cap],.func (.func 202) #[] #[.pointer (some ⟨w.heap.size+1+1,0,none⟩)],.int .i64 (x.1:Int),.int .i64 (x.2:Int),undef,undef,undef,undef,undef,undef,undef,undef,undef,undef,undef,undef],defers:=[] }) ?assign ?body ?done ?stop
 case assign =>intro l x W K q;gi_wp2;exact q
 case body =>
  rintro l pre x g U ⟨N,j,u,t,i⟩ hlt hz;clear C D O;obtain⟨_,p1,_⟩:=(T.out.below i.out ly).2 x.1 U;have hx0:(0:Int)<=(x.1:Int):=by omega
  have hxn:(x.1:Int)<n:=by omega
  have H:=ae (qN (x:=x) t.out);have U1:=ae (Upd.setCell (P:=fun k=>w.heap.size<=k/\k<W.heap.size) g (p:=⟨w.heap.size+1,0,none⟩) ⟨by show _<=_+1;omega,by show _+1<_;omega⟩ (.int .i64 (x.1:Int)));have J:=ae (i.out.setCell (p:=⟨w.heap.size+1,0,none⟩) (by show _<=_+1;omega) (.int .i64 (x.1:Int)));have L:=ae (World.cell?_setCell_same' g ⟨w.heap.size+1,0,none⟩ (.int .i64 (x.1:Int)) (by rw[j];rfl));cases h3:((f x.1).kind == 3) with
  | false =>
   have d:Hid (aW f (pre++[x])=-1):=by show _=_;rw[H.out,if_neg (by intro h;rw[h.1] at h3;simp at h3)]
   gi_wp2;exact⟨Upd.refl _ _,N,j,u,d.out,i.out⟩
  | true =>
   by_cases h6:(60:Int)<=(x.2:Int)
   ·have d:Hid (aW f (pre++[x])=(x.1:Int)):=by show _=_;rw[H.out,if_pos ⟨by simpa using h3,by omega⟩]
    gi_wp2;exact⟨U1.out,rfl,by rw[d.out];exact L.out,by show _≠_;rw[d.out];omega,J.out⟩
   ·have d:Hid (aW f (pre++[x])=-1):=by show _=_;rw[H.out,if_neg (by intro h;omega)]
    gi_wp2;exact⟨Upd.refl _ _,N,j,u,d.out,i.out⟩
 case done =>rintro R ys g M rfl ⟨_,j,u,t,i⟩ q;have Q:=ae ((KeepsOthers.setCell g ⟨w.heap.size+1,0,none⟩ (.int .i64 (-1))).same R _ q rfl);have J:=ae (i.out.setCell (p:=⟨w.heap.size+1,0,none⟩) (by show _<=_+1;omega) (.int .i64 (-1)));have L:=ae (World.cell?_setCell_same' g ⟨w.heap.size+1,0,none⟩ (.int .i64 (-1)) (by rw[j];rfl));gi_wp2;refine⟨by simp,.inl ⟨_,_,rfl,run_takeDeferred Q.out,?_⟩⟩;have y:=cT (n:=W.heap.size) (g.setCell ⟨w.heap.size+1,0,none⟩ (.int .i64 (-1))) M (Array.getElem?_eq_some_iff.1 Q.out).1 (.deferred none);have c:=(y.cell (p:=⟨w.heap.size+1,0,none⟩) (by show w.heap.size+1<W.heap.size;omega)).trans L.out;exact⟨.int .i64 (-1),by simp[results,Tryz.results104,go_sem,c],by rw[t.out],J.out.trans (y.mono (by omega))⟩
 case stop =>rintro R c pre g M G ⟨rfl,j,t,i⟩ q;gi_wp2;refine⟨by simp,.inl ⟨_,_,rfl,run_takeDeferred q,?_⟩⟩;have y:=cT (n:=W.heap.size) g M (Array.getElem?_eq_some_iff.1 q).1 (.deferred none);have c:=(y.cell (p:=⟨w.heap.size+1,0,none⟩) (by show w.heap.size+1<W.heap.size;omega)).trans j;exact⟨.int .i64 (aW f pre),by simp[results,Tryz.results104,go_sem,c],by rw[oz G t.out],i.out.trans (y.mono (by omega))⟩
end Go.Proofs.YtkophfgkcijjkaaGreatDoor.Vp
namespace Go.Proofs.YtkophfgkcijjkaaGreatDoor.Vp
open RowKit
theorem lR (g:Nat->Bool)(n:Nat):aG g n=-1∨0<=aG g n:=by
 induction n with
 | zero=>exact .inl rfl
 | succ k b =>
  rw[aG];split
  ·split
   ·exact .inl rfl
   ·exact .inr (by omega)
  ·exact b
theorem vR (i:Nat)(b:List (Nat × Nat)):bj i b=-1∨0<=bj i b:=by
 induction b generalizing i with
 | nil=>exact .inl rfl
 | cons x b c =>
  rw[bj];split
  ·exact c _
  ·exact .inr (by omega)
theorem nJ (f:Nat->ar)(b:List (Nat × Nat)):aW f b=-1∨0<=aW f b:=by
 induction b with
 | nil=>exact .inl rfl
 | cons x b c =>
  rw[aW];split
  ·exact .inr (by omega)
  ·exact c
theorem li {f:Nat->ar}{n:Nat}(h:aG (aZ f) n=-1):∀ p,p<n->(f p).linksN<=200:=by
 intro p d;have c:=eG h p d;simp only[aZ,Bool.and_eq_true,kindOk] at c;obtain⟨_,b⟩:=c;split at b
 ·simp[aT] at b
  omega
 ·split at b
  ·simp[aT] at b
   omega
  ·split at b
   ·simp only[cj,Bool.and_eq_true,decide_eq_true_eq] at b
    omega
   ·cases b
theorem vS {f:Nat->ar}{n:Nat}(h:aG (aZ f) n=-1):∀ p,p<n->(f p).name.size<=maxLen:=by intro p b;have c:=eG h p b;simp only[aZ,aw,Bool.and_eq_true,decide_eq_true_eq] at c;unfold maxLen;omega
theorem iD {f:Nat->ar}{n:Nat}(d:fa f n)(hn:1<=n):(aE f n).length<=n:=by
 have h:=(rF d n (n - 1) 0 (fun _=>false) (by omega) (by omega) rfl).num;have h2:=yD (lst f n (n - 1) 0 (fun _=>false)).1 n;have b:∀ k,cnt (fun _=>false) k=0:=by
  intro k;induction k with
  | zero=>rfl
  | succ j c=>rw[cnt,c];rfl
 rw[b] at h;unfold aE;omega
structure zo (w:World)(b:Nat)(v0 v1 v2 v3:Value):Prop where
 lt:b<w.heap.size
 c0:w.cell? ⟨b,0,none⟩=some v0
 c1:w.cell? ⟨b,1,none⟩=some v1
 c2:w.cell? ⟨b,2,none⟩=some v2
 c3:w.cell? ⟨b,3,none⟩=some v3
theorem xM (w:World)(b c f d:Value)(t:TypeId):zo (w.alloc (.cells #[b,c,f,d] t)) w.heap.size b c f d:=⟨by simp,by simp,by simp,by simp,by simp⟩
theorem qP (a:Option Addr)(n cap:Nat)(f:Nat->ar)(w:World)(hn:(n:Int)<=1048576)(Y:SlDeed w a n f)(M:(n:Int)<=cap)(E:∀ i,i<n->cK (f i))(hT:Tab w):Calls Tryz.prog 30 #[.agg #[.slice a n cap]] w fun e w'=>e=.returned (.tuple #[.int .i64 (dy f n).1,.int .i64 (dy f n).2])/\Below w.heap.size w w':=by
 have T:=ae Y;have HM:=ae E;have Z:=ae hT;clear Y E hT;have K:=ae ((q9 w).alloc ly (.cells #[.slice a n cap] 59));have U:(w.alloc (.cells #[.slice a n cap] 59)).cell? ⟨w.heap.size,0,none⟩=some (.slice a n cap):=by simp
 obtain⟨c1,c2,z⟩:∃ c1 c2,dy f n=(c1,c2):=⟨_,_,rfl⟩
 rw[z];have D:=ae z;clear z;by_cases V:(n:Int)=0
 ·have c:c1=1/\c2=0:=by have:=D.out;unfold dy at this;rw[if_pos (.inl (by omega))] at this;simp only[Prod.mk.injEq] at this;omega
  clear D;obtain⟨c,t⟩:=c;subst c t;obtain rfl:n=0:=by omega
  go_enter Tryz.func30,Tryz.ntmps30;go_wp2;go_ret2;exact⟨rfl,K.out⟩
 by_cases h4:(400:Int)<(n:Int)
 ·have c:c1=1/\c2=0:=by have:=D.out;unfold dy at this;rw[if_pos (.inr (by omega))] at this;simp only[Prod.mk.injEq] at this;omega
  clear D;obtain⟨c,t⟩:=c;subst c t;have S:((n:Int) == 0)=false:=by simpa using V
  go_enter Tryz.func30,Tryz.ntmps30;go_wp2;go_ret2;exact⟨rfl,K.out⟩
 have j:Hid ((if aG (aZ f) n≠-1 then ((2:Int),aG (aZ f) n) else if aG (fun p=>aS f p p) n≠-1 then (3,aG (fun p=>aS f p p) n) else if bj 0 (aE f n)≠-1 then (4,bj 0 (aE f n)) else if aW f (aE f n)≠-1 then (5,aW f (aE f n)) else (0,0))=(c1,c2)):=by have:=D.out;unfold dy at this;rw[if_neg (by omega)] at this;exact this
 clear D;obtain⟨b,off,rfl,G⟩:=T.out.resolve_left (by omega);have J:=ae G;have S:((n:Int) == 0)=false:=by simpa using V
 clear T G;have C:(n:Int)<=400:=by omega
 have Q:=ae (K.out.alloc (by simp) (.cells #[.func (.func 101) #[] #[],.func (.func 102) #[] #[],.func (.func 103) #[] #[],.func (.func 104) #[] #[]] 140));go_enter Tryz.func30,Tryz.ntmps30;go_wp2;have L:(w.alloc (.cells #[.slice (some ⟨b,off,none⟩) n cap] 59)).heap.size=w.heap.size+1:=by simp
 have x:=ae (xM (w.alloc (.cells #[.slice (some ⟨b,off,none⟩) n cap] 59)) (.func (.func 101) #[] #[]) (.func (.func 102) #[] #[]) (.func (.func 103) #[] #[]) (.func (.func 104) #[] #[]) 140);rw[L] at x;have k1:=(((Below.refl (w.heap.size+1) (w.alloc (.cells #[.slice (some ⟨b,off,none⟩) n cap] 59))).alloc (by omega) (.cells #[.func (.func 101) #[] #[],.func (.func 102) #[] #[],.func (.func 103) #[] #[],.func (.func 104) #[] #[]] 140)).cell (p:=⟨w.heap.size,0,none⟩) (Nat.lt_succ_self _)).trans U;clear L U K;generalize (w.alloc (.cells #[.slice (some ⟨b,off,none⟩) n cap] 59)).alloc (.cells #[.func (.func 101) #[] #[],.func (.func 102) #[] #[],.func (.func 103) #[] #[],.func (.func 104) #[] #[]] 140)=W at Q x k1 ⊢;have B:w.heap.size+1<W.heap.size:=x.out.lt;go_loopw [21] (fun i wr=>∃ k:Nat,k<=4/\i=.int .i64 k/\Hid (1<=k->aG (aZ f) n=-1)/\Hid (2<=k->aG (fun p=>aS f p p) n=-1)/\Hid (3<=k->bj 0 (aE f n)=-1)/\Hid (4<=k->aW f (aE f n)=-1)/\Hid (Below W.heap.size W wr)) (fun i _=>4 - (intOf i).toNat);case atStart=>exact⟨0,by omega,rfl,fun h=>by omega,fun h=>by omega,fun h=>by omega,fun h=>by omega,Below.refl _ _⟩
 case round =>
  obtain⟨k,hk,rfl,s,H,R,H4,r⟩:=hrel;have k2:=(r.out.cell (p:=⟨w.heap.size,0,none⟩) (by show w.heap.size<_;omega)).trans k1;have q:=ae (Q.out.trans (r.out.mono Q.out.size));by_cases hlt:k<4
  ·rcases(show k=0∨k=1∨k=2∨k=3 by omega) with rfl | rfl | rfl | rfl
   ·have P:=(r.out.cell (p:=⟨w.heap.size+1,0,none⟩) B).trans x.out.c0
    have m:=ae (ot b off n cap f _ C (J.out.below q.out ly) M HM.out (Z.out.below q.out Z.out.1));have l:=ae (lR _ _:aG (aZ f) n=-1∨0<=aG (aZ f) n);obtain⟨X,hX⟩:∃ X,X=aG (aZ f) n:=⟨_,rfl⟩
    rw[<-hX] at m l;have g:=ae hX;clear hX;go_wp2_with fail;refine m.out.mono ?_;rintro e O ⟨rfl,o⟩;have A:=ae (q.out.trans (o.mono q.out.size));have u:=ae (r.out.trans (o.mono r.out.size));clear o m;by_cases d:X=-1
    ·have y:Hid (aG (aZ f) n=-1):=g.out.symm.trans d
     have N:decide (0<=X)=false:=by rw[d];rfl
     clear d;go_wp2;exact⟨⟨0+1,by omega,by go_num,fun _=>y.out,fun h=>by omega,fun h=>by omega,fun h=>by omega,u.out⟩,by simp[intOf]⟩
    ·have c:c1=2/\c2=X:=by
      have:=j.out;rw[if_pos (by rw[<-g.out];exact d),<-g.out] at this;simp only[Prod.mk.injEq] at this;omega
     have I:0<=X:=l.out.resolve_left d;obtain⟨c,t⟩:=c;clear j d l;subst c t;go_wp2;go_ret2;exact⟨rfl,A.out⟩
   ·have P:=(r.out.cell (p:=⟨w.heap.size+1,1,none⟩) B).trans x.out.c1
    have m:=ae (oy b off n cap f _ C (J.out.below q.out ly) (vS (s.out (by omega))));have l:=ae (lR _ _:aG (fun p=>aS f p p) n=-1∨0<=aG (fun p=>aS f p p) n);obtain⟨X,hX⟩:∃ X,X=aG (fun p=>aS f p p) n:=⟨_,rfl⟩
    rw[<-hX] at m l;have g:=ae hX;clear hX;go_wp2_with fail;refine m.out.mono ?_;rintro e O ⟨rfl,o⟩;have A:=ae (q.out.trans (o.mono q.out.size));have u:=ae (r.out.trans (o.mono r.out.size));clear o m;by_cases d:X=-1
    ·have y:Hid (aG (fun p=>aS f p p) n=-1):=g.out.symm.trans d
     have N:decide (0<=X)=false:=by rw[d];rfl
     clear d;go_wp2;exact⟨⟨1+1,by omega,by go_num,fun _=>s.out (by omega),fun _=>y.out,fun h=>by omega,fun h=>by omega,u.out⟩,by simp[intOf]⟩
    ·have c:c1=3/\c2=X:=by
      have:=j.out;rw[if_neg (by rw[s.out (by omega)];simp),if_pos (by rw[<-g.out];exact d),<-g.out] at this;simp only[Prod.mk.injEq] at this;omega
     have I:0<=X:=l.out.resolve_left d;obtain⟨c,t⟩:=c;clear j d l;subst c t;go_wp2;go_ret2;exact⟨rfl,A.out⟩
   ·have P:=(r.out.cell (p:=⟨w.heap.size+1,2,none⟩) B).trans x.out.c2
    have m:=ae (oA b off n cap f _ (gK (s.out (by omega))) (by omega) C (J.out.below q.out ly) (li (s.out (by omega))) (by have:=iD (gK (s.out (by omega))) (n:=n) (by omega);omega));have l:=ae (vR _ _:bj 0 (aE f n)=-1∨0<=bj 0 (aE f n));obtain⟨X,hX⟩:∃ X,X=bj 0 (aE f n):=⟨_,rfl⟩
    rw[<-hX] at m l;have g:=ae hX;clear hX;go_wp2_with fail;refine m.out.mono ?_;rintro e O ⟨rfl,o⟩;have A:=ae (q.out.trans (o.mono q.out.size));have u:=ae (r.out.trans (o.mono r.out.size));clear o m;by_cases d:X=-1
    ·have y:Hid (bj 0 (aE f n)=-1):=g.out.symm.trans d
     have N:decide (0<=X)=false:=by rw[d];rfl
     clear d;go_wp2;exact⟨⟨2+1,by omega,by go_num,fun _=>s.out (by omega),fun _=>H.out (by omega),fun _=>y.out,fun h=>by omega,u.out⟩,by simp[intOf]⟩
    ·have c:c1=4/\c2=X:=by
      have:=j.out;rw[if_neg (by rw[s.out (by omega)];simp),if_neg (by rw[H.out (by omega)];simp),if_pos (by rw[<-g.out];exact d),<-g.out] at this;simp only[Prod.mk.injEq] at this;omega
     have I:0<=X:=l.out.resolve_left d;obtain⟨c,t⟩:=c;clear j d l;subst c t;go_wp2;go_ret2;exact⟨rfl,A.out⟩
   ·have P:=(r.out.cell (p:=⟨w.heap.size+1,3,none⟩) B).trans x.out.c3
    have m:=ae (qO b off n cap f _ (gK (s.out (by omega))) (by omega) C (J.out.below q.out ly) (li (s.out (by omega))));have l:=ae (nJ _ _:aW f (aE f n)=-1∨0<=aW f (aE f n));obtain⟨X,hX⟩:∃ X,X=aW f (aE f n):=⟨_,rfl⟩
    rw[<-hX] at m l;have g:=ae hX;clear hX;go_wp2_with fail;refine m.out.mono ?_;rintro e O ⟨rfl,o⟩;have A:=ae (q.out.trans (o.mono q.out.size));have u:=ae (r.out.trans (o.mono r.out.size));clear o m;by_cases d:X=-1
    ·have y:Hid (aW f (aE f n)=-1):=g.out.symm.trans d
     have N:decide (0<=X)=false:=by rw[d];rfl
     clear d;go_wp2;exact⟨⟨3+1,by omega,by go_num,fun _=>s.out (by omega),fun _=>H.out (by omega),fun _=>R.out (by omega),fun _=>y.out,u.out⟩,by simp[intOf]⟩
    ·have c:c1=5/\c2=X:=by
      have:=j.out;rw[if_neg (by rw[s.out (by omega)];simp),if_neg (by rw[H.out (by omega)];simp),if_neg (by rw[R.out (by omega)];simp),if_pos (by rw[<-g.out];exact d),<-g.out] at this;simp only[Prod.mk.injEq] at this;omega
     have I:0<=X:=l.out.resolve_left d;obtain⟨c,t⟩:=c;clear j d l;subst c t;go_wp2;go_ret2;exact⟨rfl,A.out⟩
  ·obtain rfl:k=4:=by omega
   have c:c1=0/\c2=0:=by have:=j.out;rw[if_neg (by rw[s.out (by omega)];simp),if_neg (by rw[H.out (by omega)];simp),if_neg (by rw[R.out (by omega)];simp),if_neg (by rw[H4.out (by omega)];simp)] at this;simp only[Prod.mk.injEq] at this;omega
   obtain⟨c,t⟩:=c;clear j;subst c t;go_wp2;go_ret2;exact⟨rfl,q.out⟩
end Go.Proofs.YtkophfgkcijjkaaGreatDoor.Vp
