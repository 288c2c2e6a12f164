import Derived.Test.YtamacmnikdejeaaGreatDoorRA
import Derived.Deep.CutBlock
set_option maxRecDepth 100000
set_option maxHeartbeats 4000000
open Go.Addr renaming mk->N
open Go.Value renaming slice->Y,string->U,int->J
open Option renaming none->Z,some->T
open Go.Obj renaming cells->Q
open Go.IntKind renaming i64->I
namespace Go.Proofs.YtamacmnikdejeaaGreatDoor.Vp
open RowKit
theorem pO (QN:Nat)(hNN:200<=QN/\QN<=299)(R p g c:Nat)(L:List I3)(w:World)(hR:Rd w R p)(hp:p<=20000)(P:g<w.heap.size)(hN:∀ j u,(i3L L)[j]?=T u->w.cell? (((N g 0 Z):Addr).add j)=T u)(hn:L.length<=QN)(A:L≠[])(hT:∀ i∈L,i.2.1.length<=5000):Calls Tryz.prog 78 #[.pointer (T (N R 0 Z)),.agg #[Y (T (N g 0 Z)) L.length c]] w fun e w'=>DP w R (p+1000) 0 (QN+1) e w':=by
 have A2:=(((q9 w).alloc ly (Q #[Y (T (N g 0 Z)) L.length c] 43)).alloc (by simp) (Q #[Y Z 0 0] 43)).alloc (by simp;omega) (Q #[] 146);have QM:=ae (qE hR (Y (T (N g 0 Z)) L.length c));have N0:=ae (fun(j:Nat) (u:Value) (QJ:(i3L L)[j]?=T u)=>(A2.cell (p:=((N g 0 Z):Addr).add j) (by rw[gX];exact P)).trans (hN j u QJ));have HT:=ae hT;have hl:0<L.length:=IP.2 A;clear A2 hR hN hT P;go_enter Tryz.func78,Tryz.ntmps78;go_wp2_with (at_builtin;refine fP rfl (.tmp 7) (.tmp 9) rfl (w.heap.size+2) (w.heap.size+2) 0 [] (by simp[Act.eval]) QM.ir (N g 0 Z) L.length c L (by simp[Act.eval]) rfl A N0.out (by simp only[GD];omega) (by simp) ?_);intro QH c1 W1 E C;have QP:=ae (QM.app0 (n':=QN) E C (by simp only[GD];omega) HT);rw[IN] at QP;clear E C QM N0 HT A;go_wp2_with fail;refine(av R _ (L.length:Int) _ QP.st.rd (by omega) (by omega) (by omega)).mono ?_;rintro e W2 ⟨z,rfl,z0,z1,hR,h⟩;obtain⟨k,rfl⟩:∃ k:Nat,z=(k:Int):=⟨z.toNat,by omega⟩
 have C2:=ae (QP.only h hR);have m:k<L.length:=by omega
 have nz:¬ ((L.length:Int)=0):=by omega
 clear h hR QP;go_wp2_with fail;refine(av R _ 7 _ C2.st.rd (by omega) (by omega) (by omega)).mono ?_;rintro e r ⟨s,rfl,s0,s1,hR,h⟩;have f:=ae (C2.only h hR);clear h hR C2;go_upto_block 0 with fail;go_cut [5] (fun v wx=>∃ (QR D V:Nat) (x:List I3),v=Y (T (N QR 0 Z)) x.length D/\V<=p+1000/\Hid (SC w R (w.heap.size+1) wx V QR D x (QN+1)));case rest =>
  clear f;obtain⟨QR,D,V,x,rfl,hq,b⟩:=hcut;have K:=b.st.2.2.1;have zl:=K.lt;have d0:=K.c0;have d1:=K.fz 0;have fin:=ae (b.fin (Y (T (N QR 0 Z)) x.length D));have ln:=b.len;clear K b;go_wp2;obtain⟨f1,f2,f3,f4,f5,f6⟩:=fin.out;try simp only[Exit.inBlock,Exit.then]
  refine bp (jw rfl _ _ (w.heap.size+1) _ rfl f1) rfl ?_;exact⟨x,QR,D,rfl,f2,by omega,by omega,f4,_,by omega,f5,f6⟩
 rcases(show s=0∨s=1∨s=2∨s=3∨s=6∨s=4∨s=5 by omega) with rfl | rfl | rfl | rfl | rfl | rfl | rfl;case' inl =>go_wp2_with fail;refine(av R _ 18 _ f.st.rd (by omega) (by omega) (by omega)).mono ?_;rintro e B ⟨y,rfl,X,QK,hR,h⟩;have b:=ae (f.only h hR);have o:=ae (b.set3 (j:=0) m (by omega) (y - 1,(L.getD k (0,[],0)).2) (J I (y - 1)) rfl (b.text k m));clear h hR f
 case' inr.inl =>have b:=f;have o:=ae (b.set3 (j:=2) m (by omega) ((L.getD k (0,[],0)).1,(L.getD k (0,[],0)).2.1,(wrap64 ((cS L k).n+1))) (J I (wrap64 ((cS L k).n+1))) rfl (b.text k m));clear f
 case' inr.inr.inl =>
  have q:=ae (f.below ((q9 r).alloc ly (Q #[J I (-1),J I 2000,J I 2001,J I 200,J I 201,J I 1000000007] 3)));have sz3:=q.st.lt;have V0:=ae (fun j u=>jK r #[J I (-1),J I 2000,J I 2001,J I 200,J I 201,J I 1000000007] 3 _ j u rfl);have rl:=f.st.rd.lt;go_wp2_with fail;refine(av R _ 6 _ q.st.rd (by omega) (by omega) (by omega)).mono ?_;rintro e B ⟨y,rfl,X,QK,hR,h⟩;have b:=ae (q.only h hR);have sz4:r.heap.size<B.heap.size:=by have:=h.size;simp at this;omega
  obtain⟨j,u,rfl,cv⟩:∃ (j:Nat) (u:Int),y=j/\B.cell? (N r.heap.size j Z)=T (J I u):=by have l:=fun j u QJ=>(h.cell r.heap.size j (by simp) (by omega)).trans (V0 j u QJ);rcases(show y=0∨y=1∨y=2∨y=3∨y=4∨y=5 by omega) with rfl | rfl | rfl | rfl | rfl | rfl;all_goals first | exact⟨0,_,rfl,l 0 _ rfl⟩ | exact⟨1,_,rfl,l 1 _ rfl⟩ | exact⟨2,_,rfl,l 2 _ rfl⟩ | exact⟨3,_,rfl,l 3 _ rfl⟩ | exact⟨4,_,rfl,l 4 _ rfl⟩ | exact⟨5,_,rfl,l 5 _ rfl⟩
  have o:=ae (b.set3 (j:=2) m (by omega) ((L.getD k (0,[],0)).1,(L.getD k (0,[],0)).2.1,u) (J I u) rfl (b.text k m));clear h hR f q V0
 case' inr.inr.inr.inl =>
  go_wp2_with fail;refine(av R _ 2 _ f.st.rd (by omega) (by omega) (by omega)).mono ?_;rintro e B ⟨y,rfl,X,QK,hR,h⟩;have b:=ae (f.only h hR);clear h hR f;go_wp2_with fail;obtain⟨m0,O⟩:∃ m0:Nat,2000+y=(m0:Int):=⟨(2000+y).toNat,by omega⟩
  rw[O];refine(eO ⟨#[116]⟩ m0 _ (by show 1*m0<=4000;omega) (by omega)).mono ?_;rintro e Wm ⟨t,rfl,ht,hw⟩;rw[hw]
  have o:=ae (b.set3 (j:=1) m (by omega) ((L.getD k (0,[],0)).1,t.data.toList,(L.getD k (0,[],0)).2.2) (U t) rfl (by
   rw[JI]
   exact p9 ht (by show 1*m0<=5000;omega)))
  clear ht O hw
 case' inr.inr.inr.inr.inl =>have b:=f;have o:=ae (b.set3 (j:=1) m (by omega) ((L.getD k (0,[],0)).1,[121],(L.getD k (0,[],0)).2.2) (U ⟨#[121]⟩) rfl (by simp));clear f
 case inr.inr.inr.inr.inr.inl =>
  have hc1:L.length<=c1:=by
   rcases f.ir.2 with ⟨l,_⟩ | ⟨_,_,_,l,_,_,h1,_⟩
   ·simp at l
   ·simp only[IB] at l
    omega
  have b:=ae (f.take k (by omega));have lq:(L.take k).length=k:=by rw[IU];omega
  clear f;go_wp2;go_meet;exact⟨QH,c1,_,L.take k,by rw[lq],by omega,b.mono (by omega)⟩
 case inr.inr.inr.inr.inr.inr =>
  have bd:=f.len;go_wp2;go_loopw [5] (fun v wr=>∃ (H c2 QL:Nat) (M:List I3),v=Y (T (N H 0 Z)) M.length c2/\SC w R (w.heap.size+1) wr QL H c2 M (QN+1)/\QL<=p+10+M.length) (fun v _=>QN+2 - (match v with | Y _ n _=>n | _=>0));case atStart=>exact⟨QH,c1,_,L,rfl,f.mono (by omega),by omega⟩
  case round =>
   obtain⟨H,c2,QL,M,rfl,W,hq⟩:=hrel;have CC:=ae W;have ln:=W.len;clear W f;go_wp2_with fail;refine(av R _ 2 _ CC.st.rd (by omega) (by omega) (by omega)).mono ?_;rintro e B ⟨y,rfl,X,QK,hR,h⟩;have b:=ae (CC.only h hR);clear h hR CC;by_cases hlt:(M.length:Int)<200+y
   ·go_wp2_with fail
    refine(bi 9 _).mono ?_;rintro e QO ⟨rfl,hB⟩;have o:=ae (b.below hB);clear hB b;have S:=ae (o.below ((q9 QO).alloc ly (Q #[J I 9,U ⟨#[]⟩,J I 0] 146)));have zl:=o.st.lt;go_wp2_with (at_builtin;refine fP rfl (.tmp 81) (.tmp 83) rfl (w.heap.size+2) H c2 M (by simp[Act.eval]) S.ir (N QO.heap.size 0 Z) 1 1 [(9,[],0)] (by simp[Act.eval]) rfl (by simp) (ee QO #[J I 9,U ⟨#[]⟩,J I 0] _) (by simp only[nD,GD];omega) (by simp;omega) ?_);intro g3 c3 W6 E C;have C6:=ae (S.app0 (n':=QN+1) E C (by show M.length+1<=QN+1;omega) (fun i hi=>by rw[hU.1 hi];exact DN _));clear E C S o;go_wp2;exact⟨⟨g3,c3,_,M++[(9,[],0)],by simp,C6.out,by simp only[eI,nD,GD];omega⟩,by simp;omega⟩
   ·go_wp2
    go_meet;exact⟨H,c2,_,M,rfl,by omega,b⟩
 all_goals
  obtain⟨x0,x1,x2⟩:=b.ir.at k m;rw[D0] at x0 x1 x2;have fz0:=b.ir.fz (k*3);have fz1:=b.ir.fz (k*3+1);have fz2:=b.ir.fz (k*3+2);have gl:=b.ir.lt.2;clear b;go_wp2;go_meet;exact⟨QH,c1,_,_,by rw[IC],by omega,o.mono (by rw[IC];omega)⟩
end Go.Proofs.YtamacmnikdejeaaGreatDoor.Vp
