import Derived.Test.YtkdimgejdocbbaaGreatDoorZZ
import Derived.Deep.CutBlock
set_option maxRecDepth 100000
set_option maxHeartbeats 4000000
open Go.Addr renaming mk->J
open Go.Value renaming slice->Y,string->U,int->N
open Option renaming none->Z,some->Q
open Go.Obj renaming cells->T
open Go.IntKind renaming i64->I
namespace Go.Proofs.YtkdimgejdocbbaaGreatDoor.Vp
open RowKit
theorem lE (R p g c:Nat)(L:List I3)(w:World)(hR:Rd w R p)(hp:p<=20000)(QM:g<w.heap.size)(hN:∀ j u,(i3L L)[j]?=Q u->w.cell? (((J g 0 Z):Addr).add j)=Q u)(hn:L.length<=200)(B:L≠[])(hT:∀ i∈L,i.2.1.length<=5000):Calls Tryz.prog 145 #[.pointer (Q (J R 0 Z)),.agg #[Y (Q (J g 0 Z)) L.length c]] w fun e w'=>DP w R (p+1000) 0 201 e w':=by
 have A2:=(((Qs w).alloc lr (T #[Y (Q (J g 0 Z)) L.length c] 31)).alloc (by simp) (T #[Y Z 0 0] 31)).alloc (by simp;omega) (T #[] 188);have W:=ae (x6 hR (Y (Q (J g 0 Z)) L.length c));have N0:=ae (fun(j:Nat) (u:Value) (QH:(i3L L)[j]?=Q u)=>(A2.cell (p:=((J g 0 Z):Addr).add j) (by rw[gZ];exact QM)).trans (hN j u QH));have HT:=ae hT;have hl:0<L.length:=IE.2 B;clear A2 hR hN hT QM;go_enter Tryz.func145,Tryz.ntmps145;go_wp2_with (at_builtin;refine gA rfl (.tmp 7) (.tmp 9) rfl (w.heap.size+2) (w.heap.size+2) 0 [] (by simp[Act.eval]) W.ir (J g 0 Z) L.length c L (by simp[Act.eval]) rfl B N0.out (by simp only[ES];omega) (by simp) ?_);intro S c1 W1 QQ G;have QO:=ae (W.app0 (n':=200) QQ G (by simp only[ES];omega) HT);rw[IM] at QO;clear QQ G W N0 HT B;go_wp2_with fail;refine(aD R _ (L.length:Int) _ QO.st.rd (by omega) (by omega) (by omega)).mono ?_;rintro e W2 ⟨z,rfl,z0,z1,hR,f⟩;obtain⟨k,rfl⟩:∃ k:Nat,z=(k:Int):=⟨z.toNat,by omega⟩
 have V:=ae (QO.only f hR);have l:k<L.length:=by omega
 have nz:¬ ((L.length:Int)=0):=by omega
 clear f hR QO;go_wp2_with fail;refine(aD R _ 7 _ V.st.rd (by omega) (by omega) (by omega)).mono ?_;rintro e q ⟨s,rfl,s0,s1,hR,f⟩;have d:=ae (V.only f hR);clear f hR V;go_upto_block 0 with fail;go_cut [5] (fun v wx=>∃ (r A O:Nat) (x:List I3),v=Y (Q (J r 0 Z)) x.length A/\O<=p+1000/\Hid (SC w R (w.heap.size+1) wx O r A x 201));case rest =>
  clear d;obtain⟨r,A,O,x,rfl,hq,b⟩:=hcut;have H:=b.st.2.2.1;have zl:=H.lt;have d0:=H.c0;have d1:=H.fz 0;have fin:=ae (b.fin (Y (Q (J r 0 Z)) x.length A));have ln:=b.len;clear H b;go_wp2;obtain⟨f1,f2,f3,f4,f5,f6⟩:=fin.out;try simp only[Exit.inBlock,Exit.then]
  refine bp (hZ rfl _ _ (w.heap.size+1) _ rfl f1) rfl ?_;exact⟨x,r,A,rfl,f2,by omega,by omega,f4,_,by omega,f5,f6⟩
 rcases(show s=0∨s=1∨s=2∨s=3∨s=6∨s=4∨s=5 by omega) with rfl | rfl | rfl | rfl | rfl | rfl | rfl;case' inl =>go_wp2_with fail;refine(aD R _ 18 _ d.st.rd (by omega) (by omega) (by omega)).mono ?_;rintro e C ⟨y,rfl,QL,P,hR,f⟩;have b:=ae (d.only f hR);have m:=ae (b.set3 (j:=0) l (by omega) (y - 1,(L.getD k (0,[],0)).2) (N I (y - 1)) rfl (b.text k l));clear f hR d
 case' inr.inl =>have b:=d;have m:=ae (b.set3 (j:=2) l (by omega) ((L.getD k (0,[],0)).1,(L.getD k (0,[],0)).2.1,(wrap64 ((ez L k).n+1))) (N I (wrap64 ((ez L k).n+1))) rfl (b.text k l));clear d
 case' inr.inr.inl =>
  have o:=ae (d.below ((Qs q).alloc lr (T #[N I (-1),N I 2000,N I 2001,N I 200,N I 201,N I 1000000007] 3)));have sz3:=o.st.lt;have V0:=ae (fun j u=>jA q #[N I (-1),N I 2000,N I 2001,N I 200,N I 201,N I 1000000007] 3 _ j u rfl);have rl:=d.st.rd.lt;go_wp2_with fail;refine(aD R _ 6 _ o.st.rd (by omega) (by omega) (by omega)).mono ?_;rintro e C ⟨y,rfl,QL,P,hR,f⟩;have b:=ae (o.only f hR);have sz4:q.heap.size<C.heap.size:=by have:=f.size;simp at this;omega
  obtain⟨j,u,rfl,cv⟩:∃ (j:Nat) (u:Int),y=j/\C.cell? (J q.heap.size j Z)=Q (N I u):=by have h:=fun j u QH=>(f.cell q.heap.size j (by simp) (by omega)).trans (V0 j u QH);rcases(show y=0∨y=1∨y=2∨y=3∨y=4∨y=5 by omega) with rfl | rfl | rfl | rfl | rfl | rfl;all_goals first | exact⟨0,_,rfl,h 0 _ rfl⟩ | exact⟨1,_,rfl,h 1 _ rfl⟩ | exact⟨2,_,rfl,h 2 _ rfl⟩ | exact⟨3,_,rfl,h 3 _ rfl⟩ | exact⟨4,_,rfl,h 4 _ rfl⟩ | exact⟨5,_,rfl,h 5 _ rfl⟩
  have m:=ae (b.set3 (j:=2) l (by omega) ((L.getD k (0,[],0)).1,(L.getD k (0,[],0)).2.1,u) (N I u) rfl (b.text k l));clear f hR d o V0
 case' inr.inr.inr.inl =>
  go_wp2_with fail;refine(aD R _ 2 _ d.st.rd (by omega) (by omega) (by omega)).mono ?_;rintro e C ⟨y,rfl,QL,P,hR,f⟩;have b:=ae (d.only f hR);clear f hR d;go_wp2_with fail;obtain⟨m0,K⟩:∃ m0:Nat,2000+y=(m0:Int):=⟨(2000+y).toNat,by omega⟩
  rw[K];refine(fw ⟨#[116]⟩ m0 _ (by show 1*m0<=4000;omega) (by omega)).mono ?_;rintro e Wm ⟨t,rfl,ht,hw⟩;rw[hw]
  have m:=ae (b.set3 (j:=1) l (by omega) ((L.getD k (0,[],0)).1,t.data.toList,(L.getD k (0,[],0)).2.2) (U t) rfl (by
   rw[LB]
   exact j5 ht (by show 1*m0<=5000;omega)))
  clear ht K hw
 case' inr.inr.inr.inr.inl =>have b:=d;have m:=ae (b.set3 (j:=1) l (by omega) ((L.getD k (0,[],0)).1,[121],(L.getD k (0,[],0)).2.2) (U ⟨#[121]⟩) rfl (by simp));clear d
 case inr.inr.inr.inr.inr.inl =>
  have hc1:L.length<=c1:=by
   rcases d.ir.2 with ⟨h,_⟩ | ⟨_,_,_,h,_,_,h1,_⟩
   ·simp at h
   ·simp only[CN] at h
    omega
  have b:=ae (d.take k (by omega));have lq:(L.take k).length=k:=by rw[IT];omega
  clear d;go_wp2;go_meet;exact⟨S,c1,_,L.take k,by rw[lq],by omega,b.mono (by omega)⟩
 case inr.inr.inr.inr.inr.inr =>
  have bd:=d.len;go_wp2;go_loopw [5] (fun v wr=>∃ (QP c2 QG:Nat) (M:List I3),v=Y (Q (J QP 0 Z)) M.length c2/\SC w R (w.heap.size+1) wr QG QP c2 M 201/\QG<=p+10+M.length) (fun v _=>202 - (match v with | Y _ n _=>n | _=>0));case atStart=>exact⟨S,c1,_,L,rfl,d.mono (by omega),by omega⟩
  case round =>
   obtain⟨QP,c2,QG,M,rfl,X,hq⟩:=hrel;have QJ:=ae X;have ln:=X.len;clear X d;go_wp2_with fail;refine(aD R _ 2 _ QJ.st.rd (by omega) (by omega) (by omega)).mono ?_;rintro e C ⟨y,rfl,QL,P,hR,f⟩;have b:=ae (QJ.only f hR);clear f hR QJ;by_cases hlt:(M.length:Int)<200+y
   ·go_wp2_with fail
    refine(bn 9 _).mono ?_;rintro e QN ⟨rfl,hB⟩;have m:=ae (b.below hB);clear hB b;have QK:=ae (m.below ((Qs QN).alloc lr (T #[N I 9,U ⟨#[]⟩,N I 0] 188)));have zl:=m.st.lt;go_wp2_with (at_builtin;refine gA rfl (.tmp 81) (.tmp 83) rfl (w.heap.size+2) QP c2 M (by simp[Act.eval]) QK.ir (J QN.heap.size 0 Z) 1 1 [(9,[],0)] (by simp[Act.eval]) rfl (by simp) (fQ QN #[N I 9,U ⟨#[]⟩,N I 0] _) (by simp only[o3,ES];omega) (by simp;omega) ?_);intro g3 c3 W6 QQ G;have C6:=ae (QK.app0 (n':=201) QQ G (by show M.length+1<=201;omega) (fun i hi=>by rw[j3.1 hi];exact CP _));clear QQ G QK m;go_wp2;exact⟨⟨g3,c3,_,M++[(9,[],0)],by simp,C6.out,by simp only[cM,o3,ES];omega⟩,by simp;omega⟩
   ·go_wp2
    go_meet;exact⟨QP,c2,_,M,rfl,by omega,b⟩
 all_goals
  obtain⟨x0,x1,x2⟩:=b.ir.at k l;rw[C9] at x0 x1 x2;have fz0:=b.ir.fz (k*3);have fz1:=b.ir.fz (k*3+1);have fz2:=b.ir.fz (k*3+2);have gl:=b.ir.lt.2;clear b;go_wp2;go_meet;exact⟨S,c1,_,_,by rw[IS],by omega,m.mono (by rw[IS];omega)⟩
theorem tS (R p g c:Nat)(L:List I3)(w:World)(b:Nat)(hR:Rd w R p)(h:p<=20000)(f:IR w b g c L)(k:L.length<=200)(d:L≠[])(j:∀ i∈L,i.2.1.length<=5000):Calls Tryz.prog 145 #[.pointer (Q (J R 0 Z)),.agg #[Y (Q (J g 0 Z)) L.length c]] w fun e l=>DP w R (p+1000) 0 201 e l :=
 lE R p g c L w hR h f.lt.2 f.news k d j
end Go.Proofs.YtkdimgejdocbbaaGreatDoor.Vp
