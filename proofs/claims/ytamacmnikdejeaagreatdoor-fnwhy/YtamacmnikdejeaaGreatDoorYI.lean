import Derived.Test.YtamacmnikdejeaaGreatDoorYH
import Derived.Deep.CutBlock
set_option maxRecDepth 100000
set_option maxHeartbeats 4000000
open Go.Addr renaming mk->T
open Go.Value renaming slice->Y,string->U,int->I,agg->QV
open Option renaming none->Z,some->N
open Go.Obj renaming cells->Q
open Go.IntKind renaming i64->J
open Go renaming World->H
namespace Go.Proofs.YtamacmnikdejeaaGreatDoor.Vp
open RowKit
theorem kO (QZ:Nat)(hNN:200<=QZ/\QZ<=299)(R p g c:Nat)(L:List I3)(w:H)(hR:Rd w R p)(hp:p<=20000)(O:g<w.heap.size)(hN:∀ j u,(i3L L)[j]?=N u->w.cell? (((T g 0 Z):Addr).add j)=N u)(hn:L.length<=QZ)(F:L≠[])(hT:∀ i∈L,i.2.1.length<=5000):Calls Tryz.prog 78 #[.pointer (N (T R 0 Z)),QV #[Y (N (T g 0 Z)) L.length c]] w fun e w'=>DP w R (p+1000) 0 (QZ+1) e w':=by
 have A2:=(((q9 w).alloc ly (Q #[Y (N (T g 0 Z)) L.length c] 43)).alloc (by simp) (Q #[Y Z 0 0] 43)).alloc (by simp;omega) (Q #[] 146);have Q0:=ae (rq hR (Y (N (T g 0 Z)) L.length c));have N0:=ae (fun(j:Nat) (u:Value) (V:(i3L L)[j]?=N u)=>(A2.cell (p:=((T g 0 Z):Addr).add j) (by rw[gF];exact O)).trans (hN j u V));have HT:=ae hT;have hl:0<L.length:=JS.2 F;clear A2 hR hN hT O;go_enter Tryz.func78,Tryz.ntmps78;go_wp2_with (at_builtin;refine ip rfl (.tmp 7) (.tmp 9) rfl (w.heap.size+2) (w.heap.size+2) 0 [] (by simp[Act.eval]) Q0.ir (T g 0 Z) L.length c L (by simp[Act.eval]) rfl F N0.out (by simp only[IS];omega) (by simp) ?_);intro g1 c1 W1 G A;have Q9:=ae (Q0.app0 (n':=QZ) G A (by simp only[IS];omega) HT);rw[JT] at Q9;clear G A Q0 N0 HT F;go_wp2_with fail;refine(aw R _ (L.length:Int) _ Q9.st.rd (by omega) (by omega) (by omega)).mono ?_;rintro e W2 ⟨z,rfl,z0,z1,hR,h⟩;obtain⟨k,rfl⟩:∃ k:Nat,z=(k:Int):=⟨z.toNat,by omega⟩
 have W:=ae (Q9.only h hR);have o:k<L.length:=by omega
 have nz:¬ ((L.length:Int)=0):=by omega
 clear h hR Q9;go_wp2_with fail;refine(aw R _ 7 _ W.st.rd (by omega) (by omega) (by omega)).mono ?_;rintro e r ⟨s,rfl,s0,s1,hR,h⟩;have f:=ae (W.only h hR);clear h hR W;go_upto_block 0 with fail;go_cut [5] (fun v wx=>∃ (C B P:Nat) (D:List I3),v=Y (N (T C 0 Z)) D.length B/\P<=p+1000/\Hid (SC w R (w.heap.size+1) wx P C B D (QZ+1)));case rest =>
  clear f;obtain⟨C,B,P,D,rfl,hq,b⟩:=hcut;have ZB:=b.st.2.2.1;have zl:=ZB.lt;have d0:=ZB.c0;have d1:=ZB.fz 0;have fin:=ae (b.fin (Y (N (T C 0 Z)) D.length B));have ln:=b.len;clear ZB b;go_wp2;obtain⟨f1,f2,f3,f4,f5,f6⟩:=fin.out;try simp only[Exit.inBlock,Exit.then]
  refine bp (gG rfl _ _ (w.heap.size+1) _ rfl f1) rfl ?_;exact⟨D,C,B,rfl,f2,by omega,by omega,f4,_,by omega,f5,f6⟩
 rcases(show s=0∨s=1∨s=2∨s=3∨s=6∨s=4∨s=5 by omega) with rfl | rfl | rfl | rfl | rfl | rfl | rfl;case' inl =>go_wp2_with fail;refine(aw R _ 18 _ f.st.rd (by omega) (by omega) (by omega)).mono ?_;rintro e x ⟨y,rfl,QW,Q2,hR,h⟩;have b:=ae (f.only h hR);have m:=ae (b.set3 (j:=0) o (by omega) (y - 1,(L.getD k (0,[],0)).2) (I J (y - 1)) rfl (b.text k o));clear h hR f
 case' inr.inl =>have b:=f;have m:=ae (b.set3 (j:=2) o (by omega) ((L.getD k (0,[],0)).1,(L.getD k (0,[],0)).2.1,(wrap64 ((dA L k).n+1))) (I J (wrap64 ((dA L k).n+1))) rfl (b.text k o));clear f
 case' inr.inr.inl =>
  have q:=ae (f.below ((q9 r).alloc ly (Q #[I J (-1),I J 2000,I J 2001,I J 200,I J 201,I J 1000000007] 3)));have sz3:=q.st.lt;have V0:=ae (fun j u=>mH r #[I J (-1),I J 2000,I J 2001,I J 200,I J 201,I J 1000000007] 3 _ j u rfl);have rl:=f.st.rd.lt;go_wp2_with fail;refine(aw R _ 6 _ q.st.rd (by omega) (by omega) (by omega)).mono ?_;rintro e x ⟨y,rfl,QW,Q2,hR,h⟩;have b:=ae (q.only h hR);have sz4:r.heap.size<x.heap.size:=by have:=h.size;simp at this;omega
  obtain⟨j,u,rfl,cv⟩:∃ (j:Nat) (u:Int),y=j/\x.cell? (T r.heap.size j Z)=N (I J u):=by have l:=fun j u V=>(h.cell r.heap.size j (by simp) (by omega)).trans (V0 j u V);rcases(show y=0∨y=1∨y=2∨y=3∨y=4∨y=5 by omega) with rfl | rfl | rfl | rfl | rfl | rfl;all_goals first | exact⟨0,_,rfl,l 0 _ rfl⟩ | exact⟨1,_,rfl,l 1 _ rfl⟩ | exact⟨2,_,rfl,l 2 _ rfl⟩ | exact⟨3,_,rfl,l 3 _ rfl⟩ | exact⟨4,_,rfl,l 4 _ rfl⟩ | exact⟨5,_,rfl,l 5 _ rfl⟩
  have m:=ae (b.set3 (j:=2) o (by omega) ((L.getD k (0,[],0)).1,(L.getD k (0,[],0)).2.1,u) (I J u) rfl (b.text k o));clear h hR f q V0
 case' inr.inr.inr.inl =>
  go_wp2_with fail;refine(aw R _ 2 _ f.st.rd (by omega) (by omega) (by omega)).mono ?_;rintro e x ⟨y,rfl,QW,Q2,hR,h⟩;have b:=ae (f.only h hR);clear h hR f;go_wp2_with fail;obtain⟨m0,K⟩:∃ m0:Nat,2000+y=(m0:Int):=⟨(2000+y).toNat,by omega⟩
  rw[K];refine(eG ⟨#[116]⟩ m0 _ (by show 1*m0<=4000;omega) (by omega)).mono ?_;rintro e Wm ⟨t,rfl,ht,hw⟩;rw[hw]
  have m:=ae (b.set3 (j:=1) o (by omega) ((L.getD k (0,[],0)).1,t.data.toList,(L.getD k (0,[],0)).2.2) (U t) rfl (by
   rw[L9]
   exact j4 ht (by show 1*m0<=5000;omega)))
  clear ht K hw
 case' inr.inr.inr.inr.inl =>have b:=f;have m:=ae (b.set3 (j:=1) o (by omega) ((L.getD k (0,[],0)).1,[121],(L.getD k (0,[],0)).2.2) (U ⟨#[121]⟩) rfl (by simp));clear f
 case inr.inr.inr.inr.inr.inl =>
  have hc1:L.length<=c1:=by
   rcases f.ir.2 with ⟨l,_⟩ | ⟨_,_,_,l,_,_,h1,_⟩
   ·simp at l
   ·simp only[I5] at l
    omega
  have b:=ae (f.take k (by omega));have lq:(L.take k).length=k:=by rw[JY];omega
  clear f;go_wp2;go_meet;exact⟨g1,c1,_,L.take k,by rw[lq],by omega,b.mono (by omega)⟩
 case inr.inr.inr.inr.inr.inr =>
  have bd:=f.len;go_wp2;go_loopw [5] (fun v wr=>∃ (E c2 S:Nat) (M:List I3),v=Y (N (T E 0 Z)) M.length c2/\SC w R (w.heap.size+1) wr S E c2 M (QZ+1)/\S<=p+10+M.length) (fun v _=>QZ+2 - (match v with | Y _ n _=>n | _=>0));case atStart=>exact⟨g1,c1,_,L,rfl,f.mono (by omega),by omega⟩
  case round =>
   obtain⟨E,c2,S,M,rfl,QY,hq⟩:=hrel;have QX:=ae QY;have ln:=QY.len;clear QY f;go_wp2_with fail;refine(aw R _ 2 _ QX.st.rd (by omega) (by omega) (by omega)).mono ?_;rintro e x ⟨y,rfl,QW,Q2,hR,h⟩;have b:=ae (QX.only h hR);clear h hR QX;by_cases hlt:(M.length:Int)<200+y
   ·go_wp2_with fail
    refine(bs 9 _).mono ?_;rintro e ZA ⟨rfl,hB⟩;have m:=ae (b.below hB);clear hB b;have X:=ae (m.below ((q9 ZA).alloc ly (Q #[I J 9,U ⟨#[]⟩,I J 0] 146)));have zl:=m.st.lt;go_wp2_with (at_builtin;refine ip rfl (.tmp 81) (.tmp 83) rfl (w.heap.size+2) E c2 M (by simp[Act.eval]) X.ir (T ZA.heap.size 0 Z) 1 1 [(9,[],0)] (by simp[Act.eval]) rfl (by simp) (fF ZA #[I J 9,U ⟨#[]⟩,I J 0] _) (by simp only[z8,IS];omega) (by simp;omega) ?_);intro g3 c3 W6 G A;have C6:=ae (X.app0 (n':=QZ+1) G A (by show M.length+1<=QZ+1;omega) (fun i hi=>by rw[eT.1 hi];exact AI _));clear G A X m;go_wp2;exact⟨⟨g3,c3,_,M++[(9,[],0)],by simp,C6.out,by simp only[a8,z8,IS];omega⟩,by simp;omega⟩
   ·go_wp2
    go_meet;exact⟨E,c2,_,M,rfl,by omega,b⟩
 all_goals
  obtain⟨x0,x1,x2⟩:=b.ir.at k o;rw[DN] at x0 x1 x2;have fz0:=b.ir.fz (k*3);have fz1:=b.ir.fz (k*3+1);have fz2:=b.ir.fz (k*3+2);have gl:=b.ir.lt.2;clear b;go_wp2;go_meet;exact⟨g1,c1,_,_,by rw[JO],by omega,m.mono (by rw[JO];omega)⟩
theorem sf (R p g c:Nat)(L:List I3)(w:H)(hR:Rd w R p)(m:p<=20000)(b:g<w.heap.size)(l:∀ j u,(i3L L)[j]?=N u->w.cell? (((T g 0 Z):Addr).add j)=N u)(hn:L.length<=200)(f:L≠[])(h:∀ i∈L,i.2.1.length<=5000):Calls Tryz.prog 78 #[.pointer (N (T R 0 Z)),QV #[Y (N (T g 0 Z)) L.length c]] w fun e n=>DP w R (p+1000) 0 201 e n :=
 kO 200 ⟨j5 _,by omega⟩ R p g c L w hR m b l hn f h
theorem vb (R p g c:Nat)(L:List I3)(w:H)(b:Nat)(hR:Rd w R p)(l:p<=20000)(f:IR w b g c L)(hn:L.length<=200)(h:L≠[])(j:∀ i∈L,i.2.1.length<=5000):Calls Tryz.prog 78 #[.pointer (N (T R 0 Z)),QV #[Y (N (T g 0 Z)) L.length c]] w fun e m=>DP w R (p+1000) 0 201 e m :=
 sf R p g c L w hR l f.lt.2 f.news hn h j
end Go.Proofs.YtamacmnikdejeaaGreatDoor.Vp
