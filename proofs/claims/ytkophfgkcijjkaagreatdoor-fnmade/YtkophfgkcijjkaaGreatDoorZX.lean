import Derived.Test.YtkophfgkcijjkaaGreatDoorZI
import Derived.Test.YtkophfgkcijjkaaGreatDoorZC
import Derived.RangeFuncNested
import Derived.RangeFuncBound
import Derived.RangeFuncCalls
import Derived.RangeFuncLeaves
import Derived.Shelf.Abstract
import Derived.Shelf.RegionOpen
import Derived.OwnWalkIn
import Derived.TacticsInMore
import Derived.LoopNIn
import Derived.LoopIn
import Derived.Sort.QuietIn
import Derived.Sort.BigQuietIn
import Derived.Sort.CutIn
set_option maxRecDepth 100000
set_option maxHeartbeats 4000000
namespace Go.Proofs.YtkophfgkcijjkaaGreatDoor.Vp
open RowKit Go.Shelf Ca
attribute [local go_sem] Oper.semAt_some
structure LSt (w0 W:World)(n1 b off n cap L M l:Nat)(s:Nat→Bool):Prop where
 c0:W.cell? ⟨L,0,none⟩=some (.slice (some ⟨b,off,none⟩) n cap)
 c1:W.cell? ⟨L,1,none⟩=some (.slice (some ⟨M,0,none⟩) n n)
 c2:W.cell? ⟨L,2,none⟩=some (.func (.yield l) #[] #[])
 row:∀ q,q<n→W.cell? ⟨M,q,none⟩=some (.bool (s q))∧W.frozen? ⟨M,q,none⟩=false
 low:Below w0.heap.size w0 W
 hL:n1≤L∧L<W.heap.size
 hM:n1≤M∧M<W.heap.size
 ne:L≠M
 hb:w0.heap.size≤n1
 tyM:OfTy W M 4
 tyL:OfTy W L 269
theorem LSt.blocks {w0 W W':World}{n1 b off n cap L M l:Nat}{s:Nat→Bool}(h:LSt w0 W n1 b off n cap L M l s)(hz:W.heap.size≤W'.heap.size)(eL:W'.heap[L]?=W.heap[L]?)(eM:W'.heap[M]?=W.heap[M]?)(hl:Below w0.heap.size w0 W'):LSt w0 W' n1 b off n cap L M l s:=by
 have c:∀ o,W'.cell? ⟨L,o,none⟩=W.cell? ⟨L,o,none⟩:=fun o=>World.cell?_of_block (a:=⟨L,o,none⟩) eL
 exact ⟨(c 0).trans h.c0,(c 1).trans h.c1,(c 2).trans h.c2,fun q hq=>⟨(World.cell?_of_block (a:=⟨M,q,none⟩) eM).trans (h.row q hq).1,(World.frozen?_of_block (a:=⟨M,q,none⟩) eM).trans (h.row q hq).2⟩,hl,⟨h.hL.1,ll h.hL.2 hz⟩,⟨h.hM.1,ll h.hM.2 hz⟩,h.ne,h.hb,h.tyM.eq eM,h.tyL.eq eL⟩
theorem LSt.below {w0 W W':World}{n1 b off n cap L M l:Nat}{s:Nat→Bool}(h:LSt w0 W n1 b off n cap L M l s)(hb:Below W.heap.size W W'):LSt w0 W' n1 b off n cap L M l s :=
 h.blocks hb.size (hb.block L h.hL.2) (hb.block M h.hM.2) (h.low.trans (hb.mono h.low.size))
theorem LSt.upd {w0 W W':World}{n1 b off n cap L M l:Nat}{s:Nat→Bool}{T:TypeId}(hT:T≠4∧T≠269)(h:LSt w0 W n1 b off n cap L M l s)(hu:Upd2 T w0.heap.size n1 W W'):LSt w0 W' n1 b off n cap L M l s :=
 h.blocks hu.size (hu.block L h.hL.2 (.inr ⟨h.hL.1,h.tyL.ne hT.2⟩)) (hu.block M h.hM.2 (.inr ⟨h.hM.1,h.tyM.ne hT.1⟩)) (h.low.trans (hu.below h.low.size))
theorem LSt.set {w0 W:World}{n1 b off n cap L M l p:Nat}{s:Nat→Bool}(h:LSt w0 W n1 b off n cap L M l s)(hp:p<n):LSt w0 (W.setCell ⟨M,p,none⟩ (.bool true)) n1 b off n cap L M l (put s p):=by
 have c:∀ o,(W.setCell ⟨M,p,none⟩ (.bool true)).cell? ⟨L,o,none⟩=W.cell? ⟨L,o,none⟩:=fun o=>World.cell?_setCell_other _ _ _ _ (by simp;exact fun e=>absurd e.symm h.ne)
 refine ⟨(c 0).trans h.c0,(c 1).trans h.c1,(c 2).trans h.c2,fun q hq=>⟨?_,by simpa using (h.row q hq).2⟩,h.low.setCell (by have:=h.hM.1;have:=h.hb;show _≤M;omega) _,by simpa using h.hL,by simpa using h.hM,h.ne,h.hb,h.tyM.set _ _,h.tyL.set _ _⟩
 by_cases e:q=p
 ·subst e
  rw [World.cell?_setCell_same' _ _ _ (by rw [(h.row q hq).1];rfl)]
  simp [put]
 ·rw [World.cell?_setCell_other _ _ _ _ (by simp),(h.row q hq).1]
  simp [put,e]
theorem qL {go:Nat→Nat→(Nat→Bool)→(Nat→Bool) × List (Nat × Nat)}{x:aD}{d:Nat}{s:Nat→Bool}{i m:Nat}(h:i≤m):(lks go x d s i).2 <+: (lks go x d s m).2:=by
 induction m with
 | zero =>
  obtain rfl:i=0:=by omega
  exact List.prefix_rfl
 | succ k ih =>
  by_cases e:i=k+1
  ·subst e;exact List.prefix_rfl
  ·refine (ih (by omega)).trans ?_
   rw [lks]
   split
   ·exact List.prefix_append _ _
   ·exact List.prefix_rfl
theorem vz {T:TypeId}(hT:T≠4∧T≠269)(w0:World)(n1 b off n cap L M l:Nat)(full:List (Nat × Nat))(f:Nat→aD)(J Jx:List (Nat × Nat)→World→Prop)(hA:fL f n)(hn:(n:Int)≤400)(hf:RowDeed w0 b off n f)(hlk:∀ p,p<n→(f p).linksN≤200)
  (hJ:∀ s A C,J s A→Itr 4 n1 A C→J s C) (hJx:∀ s A C,Jx s A→Itr 4 n1 A C→Jx s C)
  (hY:∀ m pre (x:Nat × Nat) W,x.1<n→J pre W→pre++[x] <+: full→n1≤W.heap.size→YieldAt Fence.wide m Tryz.prog l #[.int .i64 (x.1:Int),.int .i64 (x.2:Int)] W fun e W' =>
   (e=.returned (.bool true)∧J (pre++[x]) W'∧Upd2 T w0.heap.size n1 W W')∨(e=.returned (.bool false)∧Jx (pre++[x]) W')) :
  ∀ (k p d:Nat) (s:Nat→Bool) (pre:List (Nat × Nat)) (W:World) (nn:Nat),p<k→p<n→d+p≤1000→LSt w0 W n1 b off n cap L M l s→s p=false→J pre W→pre++(lst f k p d s).2 <+: full →
   CallsIn Fence.wide nn Tryz.prog 203 #[.pointer (some ⟨L,0,none⟩),.int .i64 (p:Int),.int .i64 (d:Int)] W fun e W' =>
    (e=.returned (.bool true)∧J (pre++(lst f k p d s).2) W'∧LSt w0 W' n1 b off n cap L M l (lst f k p d s).1)∨(e=.returned (.bool false)∧∃ q,q <+: (lst f k p d s).2∧Jx (pre++q) W'):=by
 intro k
 induction k with
 | zero=>intro p d s pre W nn h;omega
 | succ k ih =>
  intro p d s pre W nn hpk hpn hdp hS hs hJ0 hN
  have HS:=ae hS
  have HJ0:=ae hJ0
  have HN:=ae hN
  have HIH:=ae ih
  have HY:=ae hY
  have HJ:=ae hJ
  have HJx:=ae hJx
  have HA:=ae hA
  have HF:=ae hf
  obtain ⟨_,_,_,_,_,⟨a1,cap1,p5',q5⟩⟩:=hf.2 p hpn
  have p5:=(hS.low.cell (p:=⟨b,off+p*6+5,none⟩) hf.1).trans p5'
  obtain ⟨m,hm⟩:∃ m,m=(f p).linksN:=⟨_,rfl⟩
  have hm2:m≤200:=by rw [hm];exact hlk p hpn
  rw [← hm] at p5 q5
  have HL:=ae q5
  have HM:=ae hm
  have e0:=hS.c0
  obtain ⟨K,hK⟩:∃ K,K=lks (lst f k) (f p) d s:=⟨_,rfl⟩
  have HLS:Hid (lst f (k+1) p d s=(put (K m).1 p,(K m).2++[(p,d)])):=by rw [hK,hm];rfl
  have HK0:Hid (K 0=(s,[])):=by rw [hK];rfl
  have HKS:Hid (∀ j,K (j+1)=if ((f p).links j).ask=true∧(K j).1 ((f p).links j).at_.toNat=false then ((lst f k ((f p).links j).at_.toNat (d+1) (K j).1).1,(K j).2++(lst f k ((f p).links j).at_.toNat (d+1) (K j).1).2) else K j):=fun j=>by rw [hK];rfl
  have HKP:Hid (∀ i,i≤m→(K i).2 <+: (K m).2):=fun i hi=>by rw [hK];exact qL hi
  clear hS hJ0 hN ih hY hJ hJx hA hf q5 hm hlk p5' hK
  refine callsIn_of_wp Tryz.func203 rfl trivial ?_ rfl
  simp only [Tryz.ntmps203,List.size_toArray,List.length_cons,List.length_nil,Nat.reduceAdd,Nat.reduceSub,Array.replicate_succ,Array.replicate_zero,List.push_toArray,List.append_toArray,List.nil_append,List.cons_append]
  gi_wp2
  clear e0 p5
  gi_loopw [18] (fun i wr=>∃ j:Nat,j≤m∧i=.int .i64 j∧Hid (LSt w0 wr n1 b off n cap L M l (K j).1)∧Hid (J (pre++(K j).2) wr)) (fun i _=>m - (intOf i).toNat)
  case atStart=>exact ⟨0,by omega,rfl,by rw [HK0.out];exact HS.out,by rw [HK0.out,List.append_nil];exact HJ0.out⟩
  case round =>
   obtain ⟨j,hj,rfl,HSt,HJr⟩:=hrel
   by_cases hlt:j<m
   ·obtain ⟨lb,lo,rfl,hrow⟩:=(HL.out.below HSt.out.low lr).resolve_left (by omega)
    obtain ⟨d0,d1,d2,d3⟩:=hrow.2 j hlt
    clear hrow
    have hks:=HKS.out j
    have hah:=HA.out p hpn j (by have:=HM.out;omega)
    generalize (f p).links j=x at d0 d1 d2 d3 hks hah
    have HKJ:=ae hks
    clear hks
    have S1:=ae (HSt.out.below (br.alloc lr (.cells #[.string x.name,.bool x.ask,.bool x.has,.int .i64 x.at_] 73)))
    have J1:=ae (HJ.out _ _ _ HJr.out (Itr.of_below ((Below.refl wr.heap.size wr).alloc lr (.cells #[.string x.name,.bool x.ask,.bool x.has,.int .i64 x.at_] 73)) lr (by have:=HSt.out.hL;omega)))
    have e1:(wr.alloc (.cells #[.string x.name,.bool x.ask,.bool x.has,.int .i64 x.at_] 73)).cell? ⟨wr.heap.size,1,none⟩=some (.bool x.ask):=by simp
    have e3:(wr.alloc (.cells #[.string x.name,.bool x.ask,.bool x.has,.int .i64 x.at_] 73)).cell? ⟨wr.heap.size,3,none⟩=some (.int .i64 x.at_):=by simp
    have HAH:=ae hah
    clear hah
    gi_upto_region 4 with fail
    clear d0 d1 d2 d3
    generalize wr.alloc (.cells #[.string x.name,.bool x.ask,.bool x.has,.int .i64 x.at_] 73)=W1 at S1 J1 e1 e3 ⊢
    generalize wr.heap.size=X at e1 e3 ⊢
    cases hask:x.ask with
    | false =>
     have hk1:K (j+1)=K j:=by rw [HKJ.out,if_neg (by rw [hask];simp)]
     have HK1:=ae hk1
     clear hk1
     rw [hask] at e1
     have hfw:∀ f,Fence.wide.fn f=True:=fun _=>rfl
     gi_quiet (fail)
     have S2:=ae (S1.out.below (below_drewN (Below.refl W1.heap.size W1) nq))
     have J2:=ae (HJ.out _ _ _ J1.out (Itr.of_below (below_drewN (Below.refl W1.heap.size W1) nq) lr (by have:=S1.out.hL;omega)))
     gi_wp2
     exact ⟨⟨j+1,by omega,by go_num,by rw [HK1.out];exact S2.out,by rw [HK1.out];exact J2.out⟩,by simp [intOf];omega⟩
    | true =>
     obtain ⟨q,hq⟩:∃ q:Nat,x.at_=(q:Int):=⟨x.at_.toNat,by have:=(HAH.out hask).2;omega⟩
     have hqp:q<p:=by have:=(HAH.out hask).1;rw [hq] at this;simpa using this
     rw [hq] at e3
     rw [hask] at e1
     have f1:=S1.out.c1
     obtain ⟨f2,_⟩:=S1.out.row q (by omega)
     have hq0:(0:Int)≤q:=by omega
     have hqn:(q:Int)<n:=by omega
     have hfw:∀ f,Fence.wide.fn f=True:=fun _=>rfl
     cases hl:(K j).1 q with
     | true =>
      have hk1:K (j+1)=K j:=by rw [HKJ.out,if_neg (by rw [hq];simp [hl])]
      have HK1:=ae hk1
      clear hk1
      rw [hl] at f2
      gi_quiet (fail)
      have S2:=ae (S1.out.below (below_drewN (Below.refl W1.heap.size W1) nq))
      have J2:=ae (HJ.out _ _ _ J1.out (Itr.of_below (below_drewN (Below.refl W1.heap.size W1) nq) lr (by have:=S1.out.hL;omega)))
      gi_wp2
      exact ⟨⟨j+1,by omega,by go_num,by rw [HK1.out];exact S2.out,by rw [HK1.out];exact J2.out⟩,by simp [intOf];omega⟩
     | false =>
      have hk1:K (j+1)=((lst f k q (d+1) (K j).1).1,(K j).2++(lst f k q (d+1) (K j).1).2):=by rw [HKJ.out,if_pos ⟨hask,by rw [hq];simpa using hl⟩,hq];simp
      have HK1:=ae hk1
      have hpf:=HKP.out (j+1) (by omega)
      rw [hk1] at hpf
      have HPF:=ae hpf
      have ecast:((d+1:Nat):Int)=(d:Int)+1:=by omega
      have HC:Hid (∀ W2 nn,LSt w0 W2 n1 b off n cap L M l (K j).1→J (pre++(K j).2) W2→CallsIn Fence.wide nn Tryz.prog 203 #[.pointer (some ⟨L,0,none⟩),.int .i64 (q:Int),.int .i64 ((d:Int)+1)] W2 fun e W' =>
        ∃ r:Bool,e=.returned (.bool r)∧Hid ((r=true∧J (pre++(K (j+1)).2) W'∧LSt w0 W' n1 b off n cap L M l (K (j+1)).1)∨(r=false∧∃ q,q <+: (K m).2++[(p,d)]∧Jx (pre++q) W'))):=by
       intro W2 nn h1 h2
       have hlen:(pre++(K j).2)++(lst f k q (d+1) (K j).1).2 <+: full:=by
        have h3:=HN.out
        rw [HLS.out] at h3
        obtain ⟨z,hz⟩:=h3
        obtain ⟨y,hy⟩:=HPF.out
        exact ⟨y++[(p,d)]++z,by rw [← hz];simp only [];rw [← hy];simp⟩
       have h:=HIH.out q (d+1) (K j).1 (pre++(K j).2) W2 nn (by omega) (by omega) (by omega) h1 hl h2 hlen
       rw [ecast] at h
       refine h.mono fun e W' h=>?_
       rcases h with ⟨he,hj,hs⟩ | ⟨he,q',hq',hx⟩
       ·exact ⟨true,he,.inl ⟨rfl,by rw [HK1.out,← List.append_assoc];exact hj,by rw [HK1.out];exact hs⟩⟩
       ·refine ⟨false,he,.inr ⟨rfl,(K j).2++q',?_,by rw [← List.append_assoc];exact hx⟩⟩
        obtain ⟨z,hz⟩:=hq'
        obtain ⟨y,hy⟩:=HPF.out
        exact ⟨z++y++[(p,d)],by rw [← hy,← hz];simp⟩
      have S1d:=ae (S1.out.below ((Below.refl W1.heap.size W1).drew))
      have J1d:=ae (HJ.out _ _ _ J1.out (Itr.of_below (Below.refl W1.heap.size W1).drew lr (by have:=S1.out.hL;omega)))
      have hwr:IntKind.i64.wrap ((d:Int)+1)=(d:Int)+1:=by rw [IntKind.wrap_i64];omega
      clear hk1 hpf
      rw [hl] at f2
      gi_region_with ((try refine ⟨fun h=>(by cases h),?_⟩);gi_at_call 203;refine (HC.out _ _ ?_ ?_).mono ?_;(first | exact S1d.out | exact S1.out);(first | exact J1d.out | exact J1.out);rintro e W3 ⟨r,rfl,H3⟩)
      all_goals
       cases r with
       | true =>
        have h3:=H3.out.resolve_right (fun h=>by cases h.1)
        have S3:=ae h3.2.2
        have J3:=ae h3.2.1
        clear h3 H3
        gi_wp2
        exact ⟨⟨j+1,by omega,by go_num,S3.out,J3.out⟩,by simp [intOf];omega⟩
       | false =>
        have h3:=H3.out.resolve_left (fun h=>by cases h.1)
        have X3:=ae h3.2
        clear h3 H3
        gi_wp2
        go_ret
        rw [HLS.out]
        exact .inr ⟨rfl,X3.out⟩
   ·have e:m=j:=by omega
    subst e
    have S2:=ae (HSt.out.set hpn)
    have J2:=ae (HJ.out _ _ _ HJr.out (Itr.setCell wr (p:=⟨M,p,none⟩) HSt.out.hM.1 HSt.out.tyM (.bool true)))
    have hlen:(pre++(K m).2)++[(p,d)] <+: full:=by
     have h3:=HN.out
     rw [HLS.out] at h3
     simpa using h3
    have hYY:=HY.out (nn - 1) (pre++(K m).2) (p,d) _ hpn J2.out hlen (by have:=HSt.out.hL;simp;omega)
    obtain ⟨fn,tmps,assign,body,hy,hR⟩:=hYY
    dsimp only at hy
    have HR:=ae hR
    clear hR
    have g1:=HSt.out.c1
    obtain ⟨g3,g4⟩:=HSt.out.row p hpn
    have g2:=S2.out.c2
    have hp0:(0:Int)≤p:=by omega
    have hpn':(p:Int)<n:=by omega
    gi_wp2
    refine ⟨fun h=>(by cases h),HR.out.mono ?_⟩
    rintro e W3 (⟨rfl,hJ3,hU3⟩ | ⟨rfl,hx3⟩)
    ·have J3:=ae hJ3
     have S3:=ae (S2.out.upd hT hU3)
     clear hJ3 hU3
     gi_wp2
     go_ret
     rw [HLS.out]
     exact .inl ⟨rfl,by rw [← List.append_assoc];exact J3.out,S3.out⟩
    ·have X3:=ae hx3
     clear hx3
     gi_wp2
     go_ret
     rw [HLS.out]
     exact .inr ⟨rfl,_,List.prefix_rfl,by rw [← List.append_assoc];exact X3.out⟩
attribute [local go_sem] Oper.semAt_some
theorem tY {F:Fence}(hd:F.depth=none){m m':Nat}{P:Program}{l:Nat}{f:FuncId}{tmps:Array Value}{assign body:Code}{w:World}{R:Ending→World→Prop}
  (h:RoundIn F m P l f tmps assign body w R):RoundIn F m' P l f tmps assign body w R:=⟨h.1,fun c cs _=>h.2 c cs (fun d h=>by rw [hd] at h;cases h)⟩
theorem tZ {F:Fence}(hd:F.depth=none){m:Nat}(m':Nat){P:Program}{l:Nat}{args:Array Value}{W:World}{R:Ending→World→Prop}(h:YieldAt F m P l args W R):YieldAt F m' P l args W R:=by
 obtain ⟨fn,tmps,assign,body,hy,hR⟩:=h
 exact ⟨fn,tmps,assign,body,hy,tY hd hR⟩
theorem t6:(Tryz.prog.info? 4).map (fun i=>(i.zero,i.size,i.bytes))=some (some (.bool false),1,1):=by kernel_rfl
def bG (n:Nat):Array Value:=madeCells (Value.bool false).cells n
theorem wB (n:Nat)(hn:n≤1048576)(w:World):(Instr.makeSlice 161 (.int .i64 (n:Int)) (.int .i64 (n:Int))).run Tryz.prog w=.ok (.slice (some ⟨w.heap.size,0,none⟩) n n) (w.alloc (.cells (bG n) 4)):=by
 obtain ⟨i,hi,hz⟩:=Option.map_eq_some_iff.1 t6
 simp only [Prod.mk.injEq] at hz
 obtain ⟨h1,h2,h3⟩:=hz
 have h:=run_make (P:=Tryz.prog) w 161 4 i _ Tryz.underlying161 hi h1 .i64 .i64 n n (by omega) (Int.le_refl _) (by rw [h3];omega) (by omega)
 rw [h2] at h
 simpa [bG] using h
theorem ny (n q:Nat)(h:q<n):(bG n)[q]?=some (.bool false):=by
 unfold bG madeCells
 simp [Value.cells,h,Nat.mod_one]
theorem nA (W:World)(n q:Nat)(h:q<n):(W.alloc (.cells (bG n) 4)).cell? ⟨W.heap.size,q,none⟩=some (.bool false)∧(W.alloc (.cells (bG n) 4)).frozen? ⟨W.heap.size,q,none⟩=false:=by
 have e:=heap_alloc_new W (.cells (bG n) 4)
 refine ⟨?_,?_⟩
 ·rw [cell_of_row _ _ _ _ _ _ e]
  exact ny n q h
 ·unfold World.frozen?
  rw [e]
  simp
theorem t8 {w0 W:World}{b off n cap l:Nat}(hlow:Below w0.heap.size w0 W):LSt w0 ((W.alloc (.cells (bG n) 4)).alloc (.cells #[.slice (some ⟨b,off,none⟩) n cap,.slice (some ⟨W.heap.size,0,none⟩) n n,.func (.yield l) #[] #[]] 269)).drew W.heap.size b off n cap (W.heap.size+1) W.heap.size l (fun _=>false):=by
 have hz:(W.alloc (.cells (bG n) 4)).heap.size=W.heap.size+1:=by simp
 have D:Below (W.heap.size+1) (W.alloc (.cells (bG n) 4)) ((W.alloc (.cells (bG n) 4)).alloc (.cells #[.slice (some ⟨b,off,none⟩) n cap,.slice (some ⟨W.heap.size,0,none⟩) n n,.func (.yield l) #[] #[]] 269)).drew:=(br.alloc (by omega) _).drew
 refine ⟨?_,?_,?_,fun q hq=>?_,((hlow.alloc hlow.size _).alloc (by simp;have:=hlow.size;omega) _).drew,by simp,by simp;omega,by omega,hlow.size,?_,?_⟩
 ·simp
 ·simp
 ·simp
 ·exact ⟨(D.cell (p:=⟨W.heap.size,q,none⟩) (Nat.lt_succ_self _)).trans (nA W n q hq).1,(D.frozen (p:=⟨W.heap.size,q,none⟩) (Nat.lt_succ_self _)).trans (nA W n q hq).2⟩
 ·exact (OfTy.new W _ _).eq (D.block _ (Nat.lt_succ_self _))
 ·have h:=OfTy.new (W.alloc (.cells (bG n) 4)) #[.slice (some ⟨b,off,none⟩) n cap,.slice (some ⟨W.heap.size,0,none⟩) n n,.func (.yield l) #[] #[]] 269
  rw [hz] at h
  exact h.eq rfl
theorem ua {w0 W:World}{b off n cap l:Nat}(hlow:Below w0.heap.size w0 W):LSt w0 ((W.alloc (.cells #[.slice (some ⟨b,off,none⟩) n cap,.slice (some ⟨W.heap.size+1,0,none⟩) n n,.func (.yield l) #[] #[]] 269)).alloc (.cells (bG n) 4)).drew W.heap.size b off n cap W.heap.size (W.heap.size+1) l (fun _=>false):=by
 have hz:(W.alloc (.cells #[.slice (some ⟨b,off,none⟩) n cap,.slice (some ⟨W.heap.size+1,0,none⟩) n n,.func (.yield l) #[] #[]] 269)).heap.size=W.heap.size+1:=by simp
 have D:Below (W.heap.size+1) (W.alloc (.cells #[.slice (some ⟨b,off,none⟩) n cap,.slice (some ⟨W.heap.size+1,0,none⟩) n n,.func (.yield l) #[] #[]] 269)) ((W.alloc (.cells #[.slice (some ⟨b,off,none⟩) n cap,.slice (some ⟨W.heap.size+1,0,none⟩) n n,.func (.yield l) #[] #[]] 269)).alloc (.cells (bG n) 4)).drew:=(br.alloc (by omega) _).drew
 refine ⟨(D.cell (p:=⟨W.heap.size,0,none⟩) (Nat.lt_succ_self _)).trans (by simp),(D.cell (p:=⟨W.heap.size,1,none⟩) (Nat.lt_succ_self _)).trans (by simp),(D.cell (p:=⟨W.heap.size,2,none⟩) (Nat.lt_succ_self _)).trans (by simp),fun q hq=>?_,((hlow.alloc hlow.size _).alloc (by simp;have:=hlow.size;omega) _).drew,by simp;omega,by simp,by omega,hlow.size,?_,?_⟩
 ·have h:=nA (W.alloc (.cells #[.slice (some ⟨b,off,none⟩) n cap,.slice (some ⟨W.heap.size+1,0,none⟩) n n,.func (.yield l) #[] #[]] 269)) n q hq
  rw [hz] at h
  exact h
 ·have h:=OfTy.new (W.alloc (.cells #[.slice (some ⟨b,off,none⟩) n cap,.slice (some ⟨W.heap.size+1,0,none⟩) n n,.func (.yield l) #[] #[]] 269)) (bG n) 4
  rw [hz] at h
  exact h.eq rfl
 ·exact (OfTy.new W _ _).eq (D.block _ (Nat.lt_succ_self _))
theorem j9 (v:Value)(w:World)(nn:Nat) :
  CallsIn Fence.wide nn Tryz.prog 163 #[.agg #[v]] w fun e w'=>e=.returned (.func (.func 202) #[] #[.pointer (some ⟨w.heap.size,0,none⟩)])∧w'=w.alloc (.cells #[v] 59):=by
 refine callsIn_of_wp Tryz.func163 rfl trivial ?_ rfl
 simp only [Tryz.ntmps163,List.size_toArray,List.length_cons,List.length_nil,Nat.reduceAdd,Nat.reduceSub,Array.replicate_succ,Array.replicate_zero,List.push_toArray,List.append_toArray,List.nil_append,List.cons_append]
 gi_wp2
 go_ret
 exact ⟨rfl,rfl⟩
theorem nB {T:TypeId}(hT:T≠4∧T≠269)(w0:World)(b off n cap Bx nn:Nat)(f:Nat→aD)(w:World)(hA:fL f n)(hn1:1≤n)(hn:(n:Int)≤400)(hf:RowDeed w0 b off n f)(hlk:∀ p,p<n→(f p).linksN≤200)(hlow:Below w0.heap.size w0 w)(hBx:w.cell? ⟨Bx,0,none⟩=some (.slice (some ⟨b,off,none⟩) n cap))(hlt:Bx<w.heap.size) :
  SeqT2 T 4 Fence.wide nn Tryz.prog 202 #[.pointer (some ⟨Bx,0,none⟩)] (fun x:Nat × Nat=>#[Value.int .i64 (x.1:Int),Value.int .i64 (x.2:Int)]) (fun pre x=>x.1<n∧pre++[x] <+: aJ f n) w0.heap.size (fun xs=>xs=aJ f n) (fun pre=>pre <+: aJ f n) w:=by
 intro l J Jx W hW hJ hJx hY h0
 have hl:=vz hT w0 W.heap.size b off n cap
 have HLI:=ae hl
 clear hl
 have hB:=(hW.cell (p:=⟨Bx,0,none⟩) hlt).trans hBx
 have hmk:=fun w=>wB n (by omega) w
 have hwb:IntKind.i64.wrap ((n:Int) - 1)=(n:Int) - 1:=by rw [IntKind.wrap_i64];omega
 have HJ:=ae hJ
 have HJx:=ae hJx
 have HY:=ae hY
 have H0:=ae h0
 have HA:=ae hA
 have HF:=ae hf
 have HLK:=ae hlk
 have HLOW:=ae (hlow.trans (hW.mono hlow.size))
 have hBl:Bx<W.heap.size:=ll hlt hW.size
 clear hJ hJx hY h0 hA hf hlk hlow hW hBx hlt
 refine callsIn_of_wp Tryz.func202 rfl trivial ?_ rfl
 simp only [Tryz.ntmps202,List.size_toArray,List.length_cons,List.length_nil,Nat.reduceAdd,Nat.reduceSub,Array.replicate_succ,Array.replicate_zero,List.push_toArray,List.append_toArray,List.nil_append,List.cons_append]
 have key:∀ L M W2,LSt w0 W2 W.heap.size b off n cap L M l (fun _=>false)→Below W.heap.size W W2→CallsIn Fence.wide (nn - 1) Tryz.prog 203 #[.pointer (some ⟨L,0,none⟩),.int .i64 ((n:Int) - 1),.int .i64 0] W2 fun e W' =>
   ∃ r:Bool,e=.returned (.bool r)∧Hid ((∃ xs,xs=aJ f n∧J xs W')∨(∃ pre,pre <+: aJ f n∧Jx pre W')):=by
  intro L M W2 hS hB2
  have h:=HLI.out L M l (aJ f n) f J Jx HA.out hn HF.out HLK.out HJ.out HJx.out (fun m pre x W1 h0 h1 h2 h3=>tZ rfl m (HY.out pre x W1 ⟨h0,h2⟩ h1 h3)) n (n - 1) 0 (fun _=>false) [] W2 (nn - 1) (by omega) (by omega) (by omega) hS rfl (HJ.out _ _ _ H0.out (Itr.of_below hB2 lr lr)) (by simp [aJ])
  rw [show ((n - 1:Nat):Int)=(n:Int) - 1 by omega] at h
  refine h.mono fun e W' h=>?_
  rcases h with ⟨he,hj,_⟩ | ⟨he,q,hq,hx⟩
  ·exact ⟨true,he,.inl ⟨_,rfl,by simpa [aJ] using hj⟩⟩
  ·exact ⟨false,he,.inr ⟨q,hq,by simpa using hx⟩⟩
 have HKEY:=ae key
 have D1:=ae (((Below.refl W.heap.size W).alloc lr (.cells (bG n) 4)).alloc (by simp) (.cells #[.slice (some ⟨b,off,none⟩) n cap,.slice (some ⟨W.heap.size,0,none⟩) n n,.func (.yield l) #[] #[]] 269)).drew
 have D2:=ae (((Below.refl W.heap.size W).alloc lr (.cells #[.slice (some ⟨b,off,none⟩) n cap,.slice (some ⟨W.heap.size+1,0,none⟩) n n,.func (.yield l) #[] #[]] 269)).alloc (by simp) (.cells (bG n) 4)).drew
 have hfw:∀ f,Fence.wide.fn f=True:=fun _=>rfl
 clear key HLI HJ HJx HY H0 HA HF HLK
 gi_upto_region 0 with fail
 gi_cut [3] from 4 (fun s3 wx=>∃ L,s3=.pointer (some ⟨L,0,none⟩)∧Hid (∃ M,LSt w0 wx W.heap.size b off n cap L M l (fun _=>false))∧Hid (Below W.heap.size W wx))
 case first =>
  have hsf:=fun (w:World) (a:Addr) (m:Mode)=>run_store Tryz.prog w a (.func (.yield l) #[] #[]) m rfl
  gi_region_with fail
  all_goals
   gi_wp2_with fail
   gi_meet
   first
    | exact ⟨W.heap.size+1,rfl,⟨W.heap.size,t8 HLOW.out⟩,D1.out⟩
    | exact ⟨W.heap.size,rfl,⟨W.heap.size+1,ua HLOW.out⟩,D2.out⟩
 case rest =>
 obtain ⟨L,rfl,HS,HB⟩:=hcut
 have hB1:=(HB.out.cell (p:=⟨Bx,0,none⟩) hBl).trans hB
 have HC:Hid (CallsIn Fence.wide (nn - 1) Tryz.prog 203 #[.pointer (some ⟨L,0,none⟩),.int .i64 ((n:Int) - 1),.int .i64 0] wc fun e W'=>∃ r:Bool,e=.returned (.bool r)∧Hid ((∃ xs,xs=aJ f n∧J xs W')∨(∃ pre,pre <+: aJ f n∧Jx pre W'))):=by
  obtain ⟨M,hS⟩:=HS.out
  exact HKEY.out L M wc hS HB.out
 clear HKEY HS hmk HB HLOW D1 D2 hB
 gi_wp2_with ((try refine ⟨fun h=>(by cases h),?_⟩);gi_at_call 203;refine HC.out.mono ?_;rintro e W3 ⟨r,rfl,H3⟩)
 go_end0
 exact ⟨⟨_,rfl⟩,H3.out⟩
theorem js (w0:World)(b off n cap Bx nn:Nat)(f:Nat→aD)(w:World)(hA:fL f n)(hn1:1≤n)(hn:(n:Int)≤400)(hf:RowDeed w0 b off n f)(hlk:∀ p,p<n→(f p).linksN≤200)(hlow:Below w0.heap.size w0 w)(hBx:w.cell? ⟨Bx,0,none⟩=some (.slice (some ⟨b,off,none⟩) n cap))(hlt:Bx<w.heap.size) :
  tJ Fence.wide nn Tryz.prog 202 #[.pointer (some ⟨Bx,0,none⟩)] (fun x:Nat × Nat=>#[Value.int .i64 (x.1:Int),Value.int .i64 (x.2:Int)]) (fun x=>x.1<n) w0.heap.size (fun xs=>xs=aJ f n) (fun pre=>pre <+: aJ f n) (aJ f n).length w :=
 (nB (T:=67) ⟨by decide,by decide⟩ w0 b off n cap Bx nn f w hA hn1 hn hf hlk hlow hBx hlt).plain fun pre x h=>⟨h.1,by have:=h.2.length_le;simp at this;omega⟩
attribute [local go_sem] Oper.semAt_some
theorem ke {i:Nat}{pre:List (Nat × Nat)}{x:Nat × Nat}(h:bJ i pre=-1):bJ i (pre++[x])=if x.1=i+pre.length then -1 else ((i+pre.length:Nat):Int):=by
 induction pre generalizing i with
 | nil=>simp [bJ]
 | cons y ys ih =>
  simp only [bJ,List.cons_append] at h ⊢
  split at h
  ·rename_i e
   rw [if_pos e,ih h]
   simp only [List.length_cons]
   have:i+1+ys.length=i+(ys.length+1):=by omega
   rw [this]
  ·omega
theorem nC {i:Nat}{pre xs:List (Nat × Nat)}(hp:pre <+: xs)(h:bJ i pre≠-1):bJ i xs=bJ i pre:=by
 induction pre generalizing i xs with
 | nil=>exact absurd rfl h
 | cons y ys ih =>
  obtain ⟨t,rfl⟩:=hp
  simp only [bJ,List.cons_append] at h ⊢
  split
  ·rename_i e
   rw [if_pos e] at h
   exact ih (List.prefix_append _ _) h
  ·rfl
theorem oO {f:Nat→aD}{pre:List (Nat × Nat)}{x:Nat × Nat}(h:bo f pre=-1):bo f (pre++[x])=if (f x.1).kind=3∧60≤x.2 then (x.1:Int) else -1:=by
 induction pre with
 | nil=>simp [bo]
 | cons y ys ih =>
  simp only [bo,List.cons_append] at h ⊢
  split at h
  ·omega
  ·rename_i e
   rw [if_neg e,ih h]
theorem mB {f:Nat→aD}{pre xs:List (Nat × Nat)}(hp:pre <+: xs)(h:bo f pre≠-1):bo f xs=bo f pre:=by
 induction pre generalizing xs with
 | nil=>exact absurd rfl h
 | cons y ys ih =>
  obtain ⟨t,rfl⟩:=hp
  simp only [bo,List.cons_append] at h ⊢
  split
  ·rfl
  ·rename_i e
   rw [if_neg e] at h
   exact ih (List.prefix_append _ _) h
structure xc (W:World)(h:Nat)(v:Value):Prop where
 size:W.heap.size=h+4
 r:W.cell? ⟨h+1,0,none⟩=some (.int .i64 0)∧W.frozen? ⟨h+1,0,none⟩=false
 t:W.cell? ⟨h+1+1,0,none⟩=some (.int .i64 0)∧W.frozen? ⟨h+1+1,0,none⟩=false
 a:W.cell? ⟨h+1+1+1,0,none⟩=some v
 a0:W.cell? ⟨h,0,none⟩=some v
theorem qM (w:World)(v:Value)(t u:TypeId):xc ((((w.alloc (.cells #[v] t)).alloc (.cells #[.int .i64 0] u)).alloc (.cells #[.int .i64 0] u)).alloc (.cells #[v] t)) w.heap.size v:=by
 have hz1:(w.alloc (.cells #[v] t)).heap.size=w.heap.size+1:=by simp
 have hz2:((w.alloc (.cells #[v] t)).alloc (.cells #[.int .i64 0] u)).heap.size=w.heap.size+1+1:=by simp
 have hz3:(((w.alloc (.cells #[v] t)).alloc (.cells #[.int .i64 0] u)).alloc (.cells #[.int .i64 0] u)).heap.size=w.heap.size+1+1+1:=by simp
 have D0:Below (w.heap.size+1) (w.alloc (.cells #[v] t)) ((((w.alloc (.cells #[v] t)).alloc (.cells #[.int .i64 0] u)).alloc (.cells #[.int .i64 0] u)).alloc (.cells #[v] t)):=((br.alloc (by omega) _).alloc (by omega) _).alloc (by omega) _
 have D1:Below (w.heap.size+1+1) ((w.alloc (.cells #[v] t)).alloc (.cells #[.int .i64 0] u)) ((((w.alloc (.cells #[v] t)).alloc (.cells #[.int .i64 0] u)).alloc (.cells #[.int .i64 0] u)).alloc (.cells #[v] t)):=(br.alloc (by omega) _).alloc (by omega) _
 have D2:Below (w.heap.size+1+1+1) (((w.alloc (.cells #[v] t)).alloc (.cells #[.int .i64 0] u)).alloc (.cells #[.int .i64 0] u)) ((((w.alloc (.cells #[v] t)).alloc (.cells #[.int .i64 0] u)).alloc (.cells #[.int .i64 0] u)).alloc (.cells #[v] t)):=br.alloc (by omega) _
 refine ⟨by simp,⟨?_,?_⟩,⟨?_,?_⟩,?_,(D0.cell (p:=⟨w.heap.size,0,none⟩) (Nat.lt_succ_self _)).trans (by simp)⟩
 ·refine (D1.cell (p:=⟨w.heap.size+1,0,none⟩) (Nat.lt_succ_self _)).trans ?_
  rw [← hz1]
  clear D0 D1 D2 hz1 hz2 hz3
  generalize w.alloc (.cells #[v] t)=W
  simp
 ·refine (D1.frozen (p:=⟨w.heap.size+1,0,none⟩) (Nat.lt_succ_self _)).trans ?_
  rw [← hz1]
  clear D0 D1 D2 hz1 hz2 hz3
  generalize w.alloc (.cells #[v] t)=W
  simp
 ·refine (D2.cell (p:=⟨w.heap.size+1+1,0,none⟩) (Nat.lt_succ_self _)).trans ?_
  rw [← hz2]
  clear D0 D1 D2 hz1 hz2 hz3
  generalize (w.alloc (.cells #[v] t)).alloc (.cells #[.int .i64 0] u)=W
  simp
 ·refine (D2.frozen (p:=⟨w.heap.size+1+1,0,none⟩) (Nat.lt_succ_self _)).trans ?_
  rw [← hz2]
  clear D0 D1 D2 hz1 hz2 hz3
  generalize (w.alloc (.cells #[v] t)).alloc (.cells #[.int .i64 0] u)=W
  simp
 ·rw [← hz3]
  clear D0 D1 D2 hz1 hz2 hz3
  generalize ((w.alloc (.cells #[v] t)).alloc (.cells #[.int .i64 0] u)).alloc (.cells #[.int .i64 0] u)=W
  simp
theorem mC (b off n cap:Nat)(f:Nat→aD)(w:World)(hA:fL f n)(hn1:1≤n)(hn:(n:Int)≤400)(hf:RowDeed w b off n f)(hlk:∀ p,p<n→(f p).linksN≤200)(hlen:(aJ f n).length≤400) :
  Calls Tryz.prog 103 #[.agg #[.slice (some ⟨b,off,none⟩) n cap]] w fun e w'=>e=.returned (.int .i64 (bJ 0 (aJ f n)))∧Below w.heap.size w w':=by
 refine (callsIn_wide (n:=3)).1 ?_
 have HF:=ae hf
 have HA:=ae hA
 have HLK:=ae hlk
 clear hf hA hlk
 have A00:=((((Below.refl w.heap.size w).alloc lr (.cells #[.slice (some ⟨b,off,none⟩) n cap] 59)).alloc (by simp) (.cells #[.int .i64 0] 3)).alloc (by simp;omega) (.cells #[.int .i64 0] 3)).alloc (by simp;omega) (.cells #[.slice (some ⟨b,off,none⟩) n cap] 59)
 have A0:=ae A00
 clear A00
 have O0:=ae (qM w (.slice (some ⟨b,off,none⟩) n cap) 59 3)
 refine callsIn_of_wp_marks Tryz.func103 rfl trivial ?_ rfl
 simp only [Tryz.ntmps103,List.size_toArray,List.length_cons,List.length_nil,Nat.reduceAdd,Nat.reduceSub,Array.replicate_succ,Array.replicate_zero,List.push_toArray,List.append_toArray,List.nil_append,List.cons_append]
 gi_wp2_with (refine ⟨trivial,?_⟩;gi_at_call 163;refine (j9 _ _ _).mono ?_;rintro e w' ⟨rfl,rfl⟩)
 generalize (((w.alloc (.cells #[.slice (some ⟨b,off,none⟩) n cap] 59)).alloc (.cells #[.int .i64 0] 3)).alloc (.cells #[.int .i64 0] 3)).alloc (.cells #[.slice (some ⟨b,off,none⟩) n cap] 59)=W at A0 O0 ⊢
 have hsz:=O0.out.size
 obtain ⟨tr1,tr2⟩:=O0.out.r
 obtain ⟨tt1,tt2⟩:=O0.out.t
 refine fW (F:=Fence.wide) rfl (by omega) (gf:=202) (lb:=#[.pointer (some ⟨w.heap.size+1+1+1,0,none⟩)]) rfl trivial (enters_of Tryz.func202 (by kernel_rfl) rfl) (base:=w.heap.size) (by omega)
  (js w b off n cap (w.heap.size+1+1+1) (3 - 1) f W HA.out hn1 hn HF.out HLK.out A0.out O0.out.a (by omega)) br (fun _=>rfl)
  (fun pre Wx=>Wx.cell? ⟨w.heap.size+1+1,0,none⟩=some (.int .i64 (pre.length:Int))∧Wx.frozen? ⟨w.heap.size+1+1,0,none⟩=false∧Wx.cell? ⟨w.heap.size+1,0,none⟩=some (.int .i64 0)∧Wx.frozen? ⟨w.heap.size+1,0,none⟩=false∧Hid (bJ 0 pre=-1)∧Hid (Below w.heap.size w Wx))
  (fun c pre Wx=>c=.ret∧Wx.cell? ⟨w.heap.size+1,0,none⟩=some (.int .i64 (bJ 0 pre))∧Hid (bJ 0 pre≠-1)∧Hid (Below w.heap.size w Wx))
  (fun s A B h hB=>⟨(hB.cell (p:=⟨w.heap.size+1+1,0,none⟩) (by show w.heap.size+1+1<W.heap.size;omega)).trans h.1,(hB.frozen (p:=⟨w.heap.size+1+1,0,none⟩) (by show w.heap.size+1+1<W.heap.size;omega)).trans h.2.1,(hB.cell (p:=⟨w.heap.size+1,0,none⟩) (by show w.heap.size+1<W.heap.size;omega)).trans h.2.2.1,(hB.frozen (p:=⟨w.heap.size+1,0,none⟩) (by show w.heap.size+1<W.heap.size;omega)).trans h.2.2.2.1,h.2.2.2.2.1,h.2.2.2.2.2.out.trans (hB.mono (by omega))⟩)
  (fun c s A B h hB=>⟨h.1,(hB.cell (p:=⟨w.heap.size+1,0,none⟩) (by show w.heap.size+1<W.heap.size;omega)).trans h.2.1,h.2.2.1,h.2.2.2.out.trans (hB.mono (by omega))⟩)
  ⟨tt1,tt2,tr1,tr2,rfl,A0.out⟩
  (fun x=>{ tmps:=#[.agg #[.slice (some ⟨b,off,none⟩) n cap],.pointer (some ⟨w.heap.size,0,none⟩),.pointer (some ⟨w.heap.size+1,0,none⟩),.pointer (some ⟨w.heap.size+1+1,0,none⟩),.int .i64 (x.1:Int),.agg #[.slice (some ⟨b,off,none⟩) n cap],.func (.func 202) #[] #[.pointer (some ⟨w.heap.size+1+1+1,0,none⟩)],.int .i64 (x.1:Int),.int .i64 (x.2:Int),undef,undef,undef,undef,undef,undef],defers:=[] }) ?assign ?body ?done ?stop
 case assign =>
  intro l x W K hK
  gi_wp2
  exact hK
 case body =>
  rintro l pre x W1 _ ⟨hc,hf,hr,hrf,HO,HB⟩ hlt hz
  clear tr1 tr2 tt1 tt2
  have hpl:(pre.length:Int)≤1048576:=by omega
  by_cases hx:(x.1:Int)=(pre.length:Int)
  ·have ho:bJ 0 (pre++[x])=-1:=by rw [ke HO.out,if_pos (by omega)]
   have HO1:=ae ho
   clear ho
   have U1:=ae (Upd.setCell (P:=fun k=>w.heap.size≤k∧k<W.heap.size) W1 (p:=⟨w.heap.size+1+1,0,none⟩) ⟨by show _≤_+1+1;omega,by show _+1+1<_;omega⟩ (.int .i64 ((pre.length:Int)+1)))
   have B1:=ae (HB.out.setCell (p:=⟨w.heap.size+1+1,0,none⟩) (by show _≤_+1+1;omega) (.int .i64 ((pre.length:Int)+1)))
   have c1:(W1.setCell ⟨w.heap.size+1+1,0,none⟩ (.int .i64 ((pre.length:Int)+1))).cell? ⟨w.heap.size+1+1,0,none⟩=some (.int .i64 ((pre++[x]).length:Int)):=by
    rw [World.cell?_setCell_same' _ _ _ (by rw [hc];rfl)]
    simp
   have c2:(W1.setCell ⟨w.heap.size+1+1,0,none⟩ (.int .i64 ((pre.length:Int)+1))).cell? ⟨w.heap.size+1,0,none⟩=some (.int .i64 0):=by
    rw [World.cell?_setCell_other _ _ _ _ (by simp)]
    exact hr
   have C1:=ae c1
   have C2:=ae c2
   clear c1 c2
   gi_wp2
   exact ⟨U1.out,C1.out,by simpa using hf,C2.out,by simpa using hrf,HO1.out,B1.out⟩
  ·have ho:bJ 0 (pre++[x])=(pre.length:Int):=by rw [ke HO.out,if_neg (by omega)];simp
   have HO1:=ae ho
   clear ho
   have U1:=ae (Upd.setCell (P:=fun k=>w.heap.size≤k∧k<W.heap.size) W1 (p:=⟨w.heap.size+1,0,none⟩) ⟨by show _≤_+1;omega,by show _+1<_;omega⟩ (.int .i64 (pre.length:Int)))
   have B1:=ae (HB.out.setCell (p:=⟨w.heap.size+1,0,none⟩) (by show _≤_+1;omega) (.int .i64 (pre.length:Int)))
   have C1:=ae (World.cell?_setCell_same' W1 ⟨w.heap.size+1,0,none⟩ (.int .i64 (pre.length:Int)) (by rw [hr];rfl))
   gi_wp2
   exact ⟨U1.out,rfl,by rw [HO1.out];exact C1.out,by show _≠_;rw [HO1.out];omega,B1.out⟩
 case done =>
  rintro D0 ys W1 hD rfl ⟨_,_,hr,hrf,HO,HB⟩ hK
  have K1:=ae ((KeepsOthers.setCell W1 ⟨w.heap.size+1,0,none⟩ (.int .i64 (-1))).same D0 _ hK rfl)
  have B1:=ae (HB.out.setCell (p:=⟨w.heap.size+1,0,none⟩) (by show _≤_+1;omega) (.int .i64 (-1)))
  have C1:=ae (World.cell?_setCell_same' W1 ⟨w.heap.size+1,0,none⟩ (.int .i64 (-1)) (by rw [hr];rfl))
  gi_wp2
  refine ⟨by simp,.inl ⟨_,_,rfl,run_takeDeferred K1.out,?_⟩⟩
  have P1:=cA (n:=W.heap.size) (W1.setCell ⟨w.heap.size+1,0,none⟩ (.int .i64 (-1))) hD (Array.getElem?_eq_some_iff.1 K1.out).1 (.deferred none)
  have c:=(P1.cell (p:=⟨w.heap.size+1,0,none⟩) (by show w.heap.size+1<W.heap.size;omega)).trans C1.out
  exact ⟨.int .i64 (-1),by simp [results,Tryz.results103,go_sem,c],by rw [HO.out],B1.out.trans (P1.mono (by omega))⟩
 case stop =>
  rintro D0 c pre W1 hD hpre ⟨rfl,hr,HO,HB⟩ hK
  gi_wp2
  refine ⟨by simp,.inl ⟨_,_,rfl,run_takeDeferred hK,?_⟩⟩
  have P1:=cA (n:=W.heap.size) W1 hD (Array.getElem?_eq_some_iff.1 hK).1 (.deferred none)
  have c:=(P1.cell (p:=⟨w.heap.size+1,0,none⟩) (by show w.heap.size+1<W.heap.size;omega)).trans hr
  exact ⟨.int .i64 (bJ 0 pre),by simp [results,Tryz.results103,go_sem,c],by rw [nC hpre HO.out],HB.out.trans (P1.mono (by omega))⟩
structure xd (W:World)(h:Nat)(v:Value):Prop where
 size:W.heap.size=h+3
 r:W.cell? ⟨h+1,0,none⟩=some (.int .i64 0)∧W.frozen? ⟨h+1,0,none⟩=false
 a:W.cell? ⟨h+1+1,0,none⟩=some v
 a0:W.cell? ⟨h,0,none⟩=some v
theorem qO (w:World)(v:Value)(t u:TypeId):xd (((w.alloc (.cells #[v] t)).alloc (.cells #[.int .i64 0] u)).alloc (.cells #[v] t)) w.heap.size v:=by
 have hz1:(w.alloc (.cells #[v] t)).heap.size=w.heap.size+1:=by simp
 have hz2:((w.alloc (.cells #[v] t)).alloc (.cells #[.int .i64 0] u)).heap.size=w.heap.size+1+1:=by simp
 have D0:Below (w.heap.size+1) (w.alloc (.cells #[v] t)) (((w.alloc (.cells #[v] t)).alloc (.cells #[.int .i64 0] u)).alloc (.cells #[v] t)):=(br.alloc (by omega) _).alloc (by omega) _
 have D1:Below (w.heap.size+1+1) ((w.alloc (.cells #[v] t)).alloc (.cells #[.int .i64 0] u)) (((w.alloc (.cells #[v] t)).alloc (.cells #[.int .i64 0] u)).alloc (.cells #[v] t)):=br.alloc (by omega) _
 refine ⟨by simp,⟨?_,?_⟩,?_,(D0.cell (p:=⟨w.heap.size,0,none⟩) (Nat.lt_succ_self _)).trans (by simp)⟩
 ·refine (D1.cell (p:=⟨w.heap.size+1,0,none⟩) (Nat.lt_succ_self _)).trans ?_
  rw [← hz1]
  clear D0 D1 hz1 hz2
  generalize w.alloc (.cells #[v] t)=W
  simp
 ·refine (D1.frozen (p:=⟨w.heap.size+1,0,none⟩) (Nat.lt_succ_self _)).trans ?_
  rw [← hz1]
  clear D0 D1 hz1 hz2
  generalize w.alloc (.cells #[v] t)=W
  simp
 ·rw [← hz2]
  clear D0 D1 hz1 hz2
  generalize (w.alloc (.cells #[v] t)).alloc (.cells #[.int .i64 0] u)=W
  simp
theorem oP (b off n cap:Nat)(f:Nat→aD)(w:World)(hA:fL f n)(hn1:1≤n)(hn:(n:Int)≤400)(hf:RowDeed w b off n f)(hlk:∀ p,p<n→(f p).linksN≤200) :
  Calls Tryz.prog 104 #[.agg #[.slice (some ⟨b,off,none⟩) n cap]] w fun e w'=>e=.returned (.int .i64 (bo f (aJ f n)))∧Below w.heap.size w w':=by
 refine (callsIn_wide (n:=3)).1 ?_
 have HF:=ae hf
 have HA:=ae hA
 have HLK:=ae hlk
 clear hf hA hlk
 have A00:=(((Below.refl w.heap.size w).alloc lr (.cells #[.slice (some ⟨b,off,none⟩) n cap] 59)).alloc (by simp) (.cells #[.int .i64 0] 3)).alloc (by simp;omega) (.cells #[.slice (some ⟨b,off,none⟩) n cap] 59)
 have A0:=ae A00
 clear A00
 have O0:=ae (qO w (.slice (some ⟨b,off,none⟩) n cap) 59 3)
 refine callsIn_of_wp_marks Tryz.func104 rfl trivial ?_ rfl
 simp only [Tryz.ntmps104,List.size_toArray,List.length_cons,List.length_nil,Nat.reduceAdd,Nat.reduceSub,Array.replicate_succ,Array.replicate_zero,List.push_toArray,List.append_toArray,List.nil_append,List.cons_append]
 gi_wp2_with (refine ⟨trivial,?_⟩;gi_at_call 163;refine (j9 _ _ _).mono ?_;rintro e w' ⟨rfl,rfl⟩)
 generalize ((w.alloc (.cells #[.slice (some ⟨b,off,none⟩) n cap] 59)).alloc (.cells #[.int .i64 0] 3)).alloc (.cells #[.slice (some ⟨b,off,none⟩) n cap] 59)=W at A0 O0 ⊢
 have hsz:=O0.out.size
 obtain ⟨tr1,tr2⟩:=O0.out.r
 have ta:=O0.out.a0
 refine fW (F:=Fence.wide) rfl (by omega) (gf:=202) (lb:=#[.pointer (some ⟨w.heap.size+1+1,0,none⟩)]) rfl trivial (enters_of Tryz.func202 (by kernel_rfl) rfl) (base:=w.heap.size) (by omega)
  (js w b off n cap (w.heap.size+1+1) (3 - 1) f W HA.out hn1 hn HF.out HLK.out A0.out O0.out.a (by omega)) br (fun _=>rfl)
  (fun pre Wx=>Wx.cell? ⟨w.heap.size,0,none⟩=some (.slice (some ⟨b,off,none⟩) n cap)∧Wx.cell? ⟨w.heap.size+1,0,none⟩=some (.int .i64 0)∧Wx.frozen? ⟨w.heap.size+1,0,none⟩=false∧Hid (bo f pre=-1)∧Hid (Below w.heap.size w Wx))
  (fun c pre Wx=>c=.ret∧Wx.cell? ⟨w.heap.size+1,0,none⟩=some (.int .i64 (bo f pre))∧Hid (bo f pre≠-1)∧Hid (Below w.heap.size w Wx))
  (fun s A B h hB=>⟨(hB.cell (p:=⟨w.heap.size,0,none⟩) (by show w.heap.size<W.heap.size;omega)).trans h.1,(hB.cell (p:=⟨w.heap.size+1,0,none⟩) (by show w.heap.size+1<W.heap.size;omega)).trans h.2.1,(hB.frozen (p:=⟨w.heap.size+1,0,none⟩) (by show w.heap.size+1<W.heap.size;omega)).trans h.2.2.1,h.2.2.2.1,h.2.2.2.2.out.trans (hB.mono (by omega))⟩)
  (fun c s A B h hB=>⟨h.1,(hB.cell (p:=⟨w.heap.size+1,0,none⟩) (by show w.heap.size+1<W.heap.size;omega)).trans h.2.1,h.2.2.1,h.2.2.2.out.trans (hB.mono (by omega))⟩)
  ⟨ta,tr1,tr2,rfl,A0.out⟩
  (fun x=>{ tmps:=#[.agg #[.slice (some ⟨b,off,none⟩) n cap],.pointer (some ⟨w.heap.size,0,none⟩),.pointer (some ⟨w.heap.size+1,0,none⟩),.int .i64 (x.1:Int),.int .i64 (x.2:Int),.agg #[.slice (some ⟨b,off,none⟩) n cap],.func (.func 202) #[] #[.pointer (some ⟨w.heap.size+1+1,0,none⟩)],.int .i64 (x.1:Int),.int .i64 (x.2:Int),undef,undef,undef,undef,undef,undef,undef,undef,undef,undef,undef,undef],defers:=[] }) ?assign ?body ?done ?stop
 case assign =>
  intro l x W K hK
  gi_wp2
  exact hK
 case body =>
  rintro l pre x W1 hox ⟨ha,hr,hrf,HO,HB⟩ hlt hz
  clear tr1 tr2 ta
  obtain ⟨_,p1,_⟩:=(HF.out.below HB.out lr).2 x.1 hox
  have hx0:(0:Int)≤(x.1:Int):=by omega
  have hxn:(x.1:Int)<n:=by omega
  have HM:=ae (oO (x:=x) HO.out)
  have U1:=ae (Upd.setCell (P:=fun k=>w.heap.size≤k∧k<W.heap.size) W1 (p:=⟨w.heap.size+1,0,none⟩) ⟨by show _≤_+1;omega,by show _+1<_;omega⟩ (.int .i64 (x.1:Int)))
  have B1:=ae (HB.out.setCell (p:=⟨w.heap.size+1,0,none⟩) (by show _≤_+1;omega) (.int .i64 (x.1:Int)))
  have C1:=ae (World.cell?_setCell_same' W1 ⟨w.heap.size+1,0,none⟩ (.int .i64 (x.1:Int)) (by rw [hr];rfl))
  cases h3:((f x.1).kind == 3) with
  | false =>
   have HM1:Hid (bo f (pre++[x])=-1):=by show _=_;rw [HM.out,if_neg (by intro h;rw [h.1] at h3;simp at h3)]
   gi_wp2
   exact ⟨Upd.refl _ _,ha,hr,hrf,HM1.out,HB.out⟩
  | true =>
   by_cases h6:(60:Int)≤(x.2:Int)
   ·have HM1:Hid (bo f (pre++[x])=(x.1:Int)):=by show _=_;rw [HM.out,if_pos ⟨by simpa using h3,by omega⟩]
    gi_wp2
    exact ⟨U1.out,rfl,by rw [HM1.out];exact C1.out,by show _≠_;rw [HM1.out];omega,B1.out⟩
   ·have HM1:Hid (bo f (pre++[x])=-1):=by show _=_;rw [HM.out,if_neg (by intro h;omega)]
    gi_wp2
    exact ⟨Upd.refl _ _,ha,hr,hrf,HM1.out,HB.out⟩
 case done =>
  rintro D0 ys W1 hD rfl ⟨_,hr,hrf,HO,HB⟩ hK
  have K1:=ae ((KeepsOthers.setCell W1 ⟨w.heap.size+1,0,none⟩ (.int .i64 (-1))).same D0 _ hK rfl)
  have B1:=ae (HB.out.setCell (p:=⟨w.heap.size+1,0,none⟩) (by show _≤_+1;omega) (.int .i64 (-1)))
  have C1:=ae (World.cell?_setCell_same' W1 ⟨w.heap.size+1,0,none⟩ (.int .i64 (-1)) (by rw [hr];rfl))
  gi_wp2
  refine ⟨by simp,.inl ⟨_,_,rfl,run_takeDeferred K1.out,?_⟩⟩
  have P1:=cA (n:=W.heap.size) (W1.setCell ⟨w.heap.size+1,0,none⟩ (.int .i64 (-1))) hD (Array.getElem?_eq_some_iff.1 K1.out).1 (.deferred none)
  have c:=(P1.cell (p:=⟨w.heap.size+1,0,none⟩) (by show w.heap.size+1<W.heap.size;omega)).trans C1.out
  exact ⟨.int .i64 (-1),by simp [results,Tryz.results104,go_sem,c],by rw [HO.out],B1.out.trans (P1.mono (by omega))⟩
 case stop =>
  rintro D0 c pre W1 hD hpre ⟨rfl,hr,HO,HB⟩ hK
  gi_wp2
  refine ⟨by simp,.inl ⟨_,_,rfl,run_takeDeferred hK,?_⟩⟩
  have P1:=cA (n:=W.heap.size) W1 hD (Array.getElem?_eq_some_iff.1 hK).1 (.deferred none)
  have c:=(P1.cell (p:=⟨w.heap.size+1,0,none⟩) (by show w.heap.size+1<W.heap.size;omega)).trans hr
  exact ⟨.int .i64 (bo f pre),by simp [results,Tryz.results104,go_sem,c],by rw [mB hpre HO.out],HB.out.trans (P1.mono (by omega))⟩
end Go.Proofs.YtkophfgkcijjkaaGreatDoor.Vp
namespace Go.Proofs.YtkophfgkcijjkaaGreatDoor.Vp
open RowKit
theorem kf (g:Nat→Bool)(n:Nat):aI g n=-1∨0≤aI g n:=by
 induction n with
 | zero=>exact .inl rfl
 | succ k ih =>
  rw [aI]
  split
  ·split
   ·exact .inl rfl
   ·exact .inr (by omega)
  ·exact ih
theorem ub (i:Nat)(xs:List (Nat × Nat)):bJ i xs=-1∨0≤bJ i xs:=by
 induction xs generalizing i with
 | nil=>exact .inl rfl
 | cons x xs ih =>
  rw [bJ]
  split
  ·exact ih _
  ·exact .inr (by omega)
theorem ss (f:Nat→aD)(xs:List (Nat × Nat)):bo f xs=-1∨0≤bo f xs:=by
 induction xs with
 | nil=>exact .inl rfl
 | cons x xs ih =>
  rw [bo]
  split
  ·exact .inr (by omega)
  ·exact ih
theorem nD {f:Nat→aD}{n:Nat}(h:aI (bE f) n=-1):∀ p,p<n→(f p).linksN≤200:=by
 intro p hp
 have h1:=gQ h p hp
 simp only [bE,Bool.and_eq_true,kindOk] at h1
 obtain ⟨_,h2⟩:=h1
 split at h2
 ·simp [bO] at h2
  omega
 ·split at h2
  ·simp [bO] at h2
   omega
  ·split at h2
   ·simp only [dE,Bool.and_eq_true,decide_eq_true_eq] at h2
    omega
   ·cases h2
theorem uc {f:Nat→aD}{n:Nat}(h:aI (bE f) n=-1):∀ p,p<n→(f p).name.size≤maxLen:=by
 intro p hp
 have h1:=gQ h p hp
 simp only [bE,au,Bool.and_eq_true,decide_eq_true_eq] at h1
 unfold maxLen
 omega
theorem oQ {f:Nat→aD}{n:Nat}(hA:fL f n)(hn:1≤n):(aJ f n).length≤n:=by
 have h:=(px hA n (n - 1) 0 (fun _=>false) (by omega) (by omega) rfl).num
 have h2:=wu (lst f n (n - 1) 0 (fun _=>false)).1 n
 have h3:∀ k,cnt (fun _=>false) k=0:=by
  intro k
  induction k with
  | zero=>rfl
  | succ j ih=>rw [cnt,ih];rfl
 rw [h3] at h
 unfold aJ
 omega
structure xe (w:World)(b:Nat)(v0 v1 v2 v3:Value):Prop where
 lt:b<w.heap.size
 c0:w.cell? ⟨b,0,none⟩=some v0
 c1:w.cell? ⟨b,1,none⟩=some v1
 c2:w.cell? ⟨b,2,none⟩=some v2
 c3:w.cell? ⟨b,3,none⟩=some v3
theorem vA (w:World)(v0 v1 v2 v3:Value)(t:TypeId):xe (w.alloc (.cells #[v0,v1,v2,v3] t)) w.heap.size v0 v1 v2 v3:=⟨by simp,by simp,by simp,by simp,by simp⟩
theorem oR (a:Option Addr)(n cap:Nat)(f:Nat→aD)(w:World)(hn:(n:Int)≤1048576)(hv:SlDeed w a n f)(hcap:(n:Int)≤cap)(hfit:∀ i,i<n→gP (f i))(hT:Tab w) :
  Calls Tryz.prog 30 #[.agg #[.slice a n cap]] w fun e w'=>e=.returned (.tuple #[.int .i64 (gR f n).1,.int .i64 (gR f n).2])∧Below w.heap.size w w':=by
 have HV:=ae hv
 have HM:=ae hfit
 have HT:=ae hT
 clear hv hfit hT
 have A0:=ae ((Below.refl w.heap.size w).alloc lr (.cells #[.slice a n cap] 59))
 have k0:(w.alloc (.cells #[.slice a n cap] 59)).cell? ⟨w.heap.size,0,none⟩=some (.slice a n cap):=by simp
 obtain ⟨c1,c2,hacc⟩:∃ c1 c2,gR f n=(c1,c2):=⟨_,_,rfl⟩
 rw [hacc]
 have HC:=ae hacc
 clear hacc
 by_cases h0:(n:Int)=0
 ·have e1:c1=1∧c2=0:=by have:=HC.out;unfold gR at this;rw [if_pos (.inl (by omega))] at this;simp only [Prod.mk.injEq] at this;omega
  clear HC
  obtain ⟨e1,e2⟩:=e1
  subst e1 e2
  obtain rfl:n=0:=by omega
  go_enter Tryz.func30,Tryz.ntmps30
  go_wp2
  go_ret2
  exact ⟨rfl,A0.out⟩
 by_cases h4:(400:Int)<(n:Int)
 ·have e1:c1=1∧c2=0:=by have:=HC.out;unfold gR at this;rw [if_pos (.inr (by omega))] at this;simp only [Prod.mk.injEq] at this;omega
  clear HC
  obtain ⟨e1,e2⟩:=e1
  subst e1 e2
  have h0':((n:Int) == 0)=false:=by simpa using h0
  go_enter Tryz.func30,Tryz.ntmps30
  go_wp2
  go_ret2
  exact ⟨rfl,A0.out⟩
 have HC1:Hid ((if aI (bE f) n≠-1 then ((2:Int),aI (bE f) n) else if aI (fun p=>bK f p p) n≠-1 then (3,aI (fun p=>bK f p p) n) else if bJ 0 (aJ f n)≠-1 then (4,bJ 0 (aJ f n)) else if bo f (aJ f n)≠-1 then (5,bo f (aJ f n)) else (0,0))=(c1,c2)):=by
  have:=HC.out
  unfold gR at this
  rw [if_neg (by omega)] at this
  exact this
 clear HC
 obtain ⟨b,off,rfl,hrow⟩:=HV.out.resolve_left (by omega)
 have HR:=ae hrow
 have h0':((n:Int) == 0)=false:=by simpa using h0
 clear HV hrow
 have hn4:(n:Int)≤400:=by omega
 have B0:=ae (A0.out.alloc (by simp) (.cells #[.func (.func 101) #[] #[],.func (.func 102) #[] #[],.func (.func 103) #[] #[],.func (.func 104) #[] #[]] 140))
 go_enter Tryz.func30,Tryz.ntmps30
 go_wp2
 have hz1:(w.alloc (.cells #[.slice (some ⟨b,off,none⟩) n cap] 59)).heap.size=w.heap.size+1:=by simp
 have FB:=ae (vA (w.alloc (.cells #[.slice (some ⟨b,off,none⟩) n cap] 59)) (.func (.func 101) #[] #[]) (.func (.func 102) #[] #[]) (.func (.func 103) #[] #[]) (.func (.func 104) #[] #[]) 140)
 rw [hz1] at FB
 have k1:=(((Below.refl (w.heap.size+1) (w.alloc (.cells #[.slice (some ⟨b,off,none⟩) n cap] 59))).alloc (by omega) (.cells #[.func (.func 101) #[] #[],.func (.func 102) #[] #[],.func (.func 103) #[] #[],.func (.func 104) #[] #[]] 140)).cell (p:=⟨w.heap.size,0,none⟩) (Nat.lt_succ_self _)).trans k0
 clear hz1 k0 A0
 generalize (w.alloc (.cells #[.slice (some ⟨b,off,none⟩) n cap] 59)).alloc (.cells #[.func (.func 101) #[] #[],.func (.func 102) #[] #[],.func (.func 103) #[] #[],.func (.func 104) #[] #[]] 140)=W at B0 FB k1 ⊢
 have hW0:w.heap.size+1<W.heap.size:=FB.out.lt
 go_loopw [21] (fun i wr=>∃ k:Nat,k≤4∧i=.int .i64 k∧Hid (1≤k→aI (bE f) n=-1)∧Hid (2≤k→aI (fun p=>bK f p p) n=-1)∧Hid (3≤k→bJ 0 (aJ f n)=-1)∧Hid (4≤k→bo f (aJ f n)=-1)∧Hid (Below W.heap.size W wr)) (fun i _=>4 - (intOf i).toNat)
 case atStart=>exact ⟨0,by omega,rfl,fun h=>by omega,fun h=>by omega,fun h=>by omega,fun h=>by omega,Below.refl _ _⟩
 case round =>
  obtain ⟨k,hk,rfl,H1,H2,H3,H4,HB⟩:=hrel
  have k2:=(HB.out.cell (p:=⟨w.heap.size,0,none⟩) (by show w.heap.size<_;omega)).trans k1
  have G0:=ae (B0.out.trans (HB.out.mono B0.out.size))
  by_cases hlt:k<4
  ·rcases (show k=0∨k=1∨k=2∨k=3 by omega) with rfl | rfl | rfl | rfl
   ·have d0:=(HB.out.cell (p:=⟨w.heap.size+1,0,none⟩) hW0).trans FB.out.c0
    have HX:=ae (mo b off n cap f _ hn4 (HR.out.below G0.out lr) hcap HM.out (HT.out.below G0.out HT.out.1))
    have HG:=ae (kf _ _:aI (bE f) n=-1∨0≤aI (bE f) n)
    obtain ⟨X,hX⟩:∃ X,X=aI (bE f) n:=⟨_,rfl⟩
    rw [← hX] at HX HG
    have HXX:=ae hX
    clear hX
    go_wp2_with fail
    refine HX.out.mono ?_
    rintro e w2 ⟨rfl,hB⟩
    have G1:=ae (G0.out.trans (hB.mono G0.out.size))
    have H1B:=ae (HB.out.trans (hB.mono HB.out.size))
    clear hB HX
    by_cases hx:X=-1
    ·have HE:Hid (aI (bE f) n=-1):=HXX.out.symm.trans hx
     have hd:decide (0≤X)=false:=by rw [hx];rfl
     clear hx
     go_wp2
     exact ⟨⟨0+1,by omega,by go_num,fun _=>HE.out,fun h=>by omega,fun h=>by omega,fun h=>by omega,H1B.out⟩,by simp [intOf]⟩
    ·have e1:c1=2∧c2=X:=by
      have:=HC1.out
      rw [if_pos (by rw [← HXX.out];exact hx),← HXX.out] at this
      simp only [Prod.mk.injEq] at this
      omega
     have hge:0≤X:=HG.out.resolve_left hx
     obtain ⟨e1,e2⟩:=e1
     clear HC1 hx HG
     subst e1 e2
     go_wp2
     go_ret2
     exact ⟨rfl,G1.out⟩
   ·have d0:=(HB.out.cell (p:=⟨w.heap.size+1,1,none⟩) hW0).trans FB.out.c1
    have HX:=ae (mr b off n cap f _ hn4 (HR.out.below G0.out lr) (uc (H1.out (by omega))))
    have HG:=ae (kf _ _:aI (fun p=>bK f p p) n=-1∨0≤aI (fun p=>bK f p p) n)
    obtain ⟨X,hX⟩:∃ X,X=aI (fun p=>bK f p p) n:=⟨_,rfl⟩
    rw [← hX] at HX HG
    have HXX:=ae hX
    clear hX
    go_wp2_with fail
    refine HX.out.mono ?_
    rintro e w2 ⟨rfl,hB⟩
    have G1:=ae (G0.out.trans (hB.mono G0.out.size))
    have H1B:=ae (HB.out.trans (hB.mono HB.out.size))
    clear hB HX
    by_cases hx:X=-1
    ·have HE:Hid (aI (fun p=>bK f p p) n=-1):=HXX.out.symm.trans hx
     have hd:decide (0≤X)=false:=by rw [hx];rfl
     clear hx
     go_wp2
     exact ⟨⟨1+1,by omega,by go_num,fun _=>H1.out (by omega),fun _=>HE.out,fun h=>by omega,fun h=>by omega,H1B.out⟩,by simp [intOf]⟩
    ·have e1:c1=3∧c2=X:=by
      have:=HC1.out
      rw [if_neg (by rw [H1.out (by omega)];simp),if_pos (by rw [← HXX.out];exact hx),← HXX.out] at this
      simp only [Prod.mk.injEq] at this
      omega
     have hge:0≤X:=HG.out.resolve_left hx
     obtain ⟨e1,e2⟩:=e1
     clear HC1 hx HG
     subst e1 e2
     go_wp2
     go_ret2
     exact ⟨rfl,G1.out⟩
   ·have d0:=(HB.out.cell (p:=⟨w.heap.size+1,2,none⟩) hW0).trans FB.out.c2
    have HX:=ae (mC b off n cap f _ (jz (H1.out (by omega))) (by omega) hn4 (HR.out.below G0.out lr) (nD (H1.out (by omega))) (by have:=oQ (jz (H1.out (by omega))) (n:=n) (by omega);omega))
    have HG:=ae (ub _ _:bJ 0 (aJ f n)=-1∨0≤bJ 0 (aJ f n))
    obtain ⟨X,hX⟩:∃ X,X=bJ 0 (aJ f n):=⟨_,rfl⟩
    rw [← hX] at HX HG
    have HXX:=ae hX
    clear hX
    go_wp2_with fail
    refine HX.out.mono ?_
    rintro e w2 ⟨rfl,hB⟩
    have G1:=ae (G0.out.trans (hB.mono G0.out.size))
    have H1B:=ae (HB.out.trans (hB.mono HB.out.size))
    clear hB HX
    by_cases hx:X=-1
    ·have HE:Hid (bJ 0 (aJ f n)=-1):=HXX.out.symm.trans hx
     have hd:decide (0≤X)=false:=by rw [hx];rfl
     clear hx
     go_wp2
     exact ⟨⟨2+1,by omega,by go_num,fun _=>H1.out (by omega),fun _=>H2.out (by omega),fun _=>HE.out,fun h=>by omega,H1B.out⟩,by simp [intOf]⟩
    ·have e1:c1=4∧c2=X:=by
      have:=HC1.out
      rw [if_neg (by rw [H1.out (by omega)];simp),if_neg (by rw [H2.out (by omega)];simp),if_pos (by rw [← HXX.out];exact hx),← HXX.out] at this
      simp only [Prod.mk.injEq] at this
      omega
     have hge:0≤X:=HG.out.resolve_left hx
     obtain ⟨e1,e2⟩:=e1
     clear HC1 hx HG
     subst e1 e2
     go_wp2
     go_ret2
     exact ⟨rfl,G1.out⟩
   ·have d0:=(HB.out.cell (p:=⟨w.heap.size+1,3,none⟩) hW0).trans FB.out.c3
    have HX:=ae (oP b off n cap f _ (jz (H1.out (by omega))) (by omega) hn4 (HR.out.below G0.out lr) (nD (H1.out (by omega))))
    have HG:=ae (ss _ _:bo f (aJ f n)=-1∨0≤bo f (aJ f n))
    obtain ⟨X,hX⟩:∃ X,X=bo f (aJ f n):=⟨_,rfl⟩
    rw [← hX] at HX HG
    have HXX:=ae hX
    clear hX
    go_wp2_with fail
    refine HX.out.mono ?_
    rintro e w2 ⟨rfl,hB⟩
    have G1:=ae (G0.out.trans (hB.mono G0.out.size))
    have H1B:=ae (HB.out.trans (hB.mono HB.out.size))
    clear hB HX
    by_cases hx:X=-1
    ·have HE:Hid (bo f (aJ f n)=-1):=HXX.out.symm.trans hx
     have hd:decide (0≤X)=false:=by rw [hx];rfl
     clear hx
     go_wp2
     exact ⟨⟨3+1,by omega,by go_num,fun _=>H1.out (by omega),fun _=>H2.out (by omega),fun _=>H3.out (by omega),fun _=>HE.out,H1B.out⟩,by simp [intOf]⟩
    ·have e1:c1=5∧c2=X:=by
      have:=HC1.out
      rw [if_neg (by rw [H1.out (by omega)];simp),if_neg (by rw [H2.out (by omega)];simp),if_neg (by rw [H3.out (by omega)];simp),if_pos (by rw [← HXX.out];exact hx),← HXX.out] at this
      simp only [Prod.mk.injEq] at this
      omega
     have hge:0≤X:=HG.out.resolve_left hx
     obtain ⟨e1,e2⟩:=e1
     clear HC1 hx HG
     subst e1 e2
     go_wp2
     go_ret2
     exact ⟨rfl,G1.out⟩
  ·obtain rfl:k=4:=by omega
   have e1:c1=0∧c2=0:=by
    have:=HC1.out
    rw [if_neg (by rw [H1.out (by omega)];simp),if_neg (by rw [H2.out (by omega)];simp),if_neg (by rw [H3.out (by omega)];simp),if_neg (by rw [H4.out (by omega)];simp)] at this
    simp only [Prod.mk.injEq] at this
    omega
   obtain ⟨e1,e2⟩:=e1
   clear HC1
   subst e1 e2
   go_wp2
   go_ret2
   exact ⟨rfl,G0.out⟩
end Go.Proofs.YtkophfgkcijjkaaGreatDoor.Vp
