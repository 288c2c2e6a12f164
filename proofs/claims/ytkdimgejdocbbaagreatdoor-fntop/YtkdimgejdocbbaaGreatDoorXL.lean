import Derived.Test.YtkdimgejdocbbaaGreatDoorXH
import Derived.Test.YtkdimgejdocbbaaGreatDoorXJ
set_option maxRecDepth 100000
set_option maxHeartbeats 4000000
open Go.Addr renaming mk->J
open Go.Value renaming slice->Z,string->U,int->Q,bool->QA,agg->QE
open Option renaming none->Y,some->N
open Go.Obj renaming cells->T
open Go.IntKind renaming i64->I
open Go renaming World->E,Value->QB
open Bool renaming false->D,true->QC
open Go.Ending renaming returned->QD
namespace Go.Proofs.YtkdimgejdocbbaaGreatDoor.Vp
open RowKit Ca
def vB (f:E)(hb:Nat)(s0 s1:QB)(b:E):Out Ent->Prop
 | .inl (made',x)=>∃ L g h st,ShBox b hb s0 s1 g h st (cR x).code (cR x).text (Z Y 0 0) D/\b.ownsRow f.heap.size 239 6 g L.length (L.flatMap smV)/\b.ownsRow f.heap.size 9 1 h made'.length (bq (made'.map (·.name)))/\(∀ m∈L,m.done=QC->b.ownsRow f.heap.size 242 3 m.sv m.seen.length (eY m.seen))/\fE L [] made'
 | .inr (.inl c)=>∃ a k,ij f hb b (jw c) (Z a c.length k)
 | .inr (.inr d)=>ij f hb b (jx d) (Z Y 0 0)
section
variable {S:Spc}{a0 a1:Option Addr}{c0 c1:Nat}
theorem ux (w:E)(C:kX w S a0 a1)(nm:ByteArray)(hn:au nm=QC):Calls Tryz.prog 95 #[QE #[Z a0 S.n0 c0,Z a1 S.n1 c1],U nm] w fun e M=>∃ hb,e=QD (.pointer (N (J hb 0 Y)))/\vB w hb (Z a0 S.n0 c0) (Z a1 S.n1 c1) M (aL S 60 [] [] nm)/\Below w.heap.size w M:=by
 obtain⟨R,hR⟩:∃ R,R=aL S 60 [] [] nm:=⟨_,rfl⟩
 have HM:Hid (∀ (W:E) (hb:Nat),SI w hb (Z a0 S.n0 c0) (Z a1 S.n1 c1) W [] [] [] (Z Y 0 0) (Z Y 0 0) (Z Y 0 0)->Calls Tryz.prog 167 #[.pointer (N (J hb 0 Y)),U nm] W fun e M=>jg w hb (Z a0 S.n0 c0) (Z a1 S.n1 c1) [] [] W e M R):=by intro W hb K;rw[hR];refine Bu C 60 [] [] [] _ _ _ W nm rfl K ⟨List.Pairwise.nil,rfl,fun x t=>absurd t nj,fun x t=>absurd t nj,fun x t=>absurd t nj⟩ (fH S []) ?_ (fun x t=>absurd t nj) hn;have h1:=tC S;have h2:=C.ok.small;unfold eJ;simp only[E4];omega
 rw[<-hR];have X:(w.alloc (T #[Z a0 S.n0 c0,Z a1 S.n1 c1] 26)).heap.size=w.heap.size+1:=by simp
 have H:=ae (((Qs w).alloc lr (T #[Z a0 S.n0 c0,Z a1 S.n1 c1] 26)).alloc (by simp) (T #[Z a0 S.n0 c0,Z a1 S.n1 c1,Z Y 0 0,Z Y 0 0,Z Y 0 0,Q I 0,U ⟨#[]⟩,Z Y 0 0,QA D] 132));have QJ:Hid (SI w (w.heap.size+1) (Z a0 S.n0 c0) (Z a1 S.n1 c1) ((w.alloc (T #[Z a0 S.n0 c0,Z a1 S.n1 c1] 26)).alloc (T #[Z a0 S.n0 c0,Z a1 S.n1 c1,Z Y 0 0,Z Y 0 0,Z Y 0 0,Q I 0,U ⟨#[]⟩,Z Y 0 0,QA D] 132)) [] [] [] (Z Y 0 0) (Z Y 0 0) (Z Y 0 0)):=by refine⟨H,AS _,?_,⟨rfl,.inl ⟨rfl,rfl⟩⟩,⟨rfl,.inl ⟨rfl,rfl⟩⟩,⟨rfl,.inl ⟨rfl,rfl⟩⟩,(fun k h=>by cases h),fun m V=>absurd V nj⟩;have h2:=eL (w.alloc (T #[Z a0 S.n0 c0,Z a1 S.n1 c1] 26)) (T #[Z a0 S.n0 c0,Z a1 S.n1 c1,Z Y 0 0,Z Y 0 0,Z Y 0 0,Q I 0,U ⟨#[]⟩,Z Y 0 0,QA D] 132);rw[X] at h2;exact h2
 clear hn C hR X;go_enter Tryz.func95,Tryz.ntmps95;go_wp2_with fail;generalize (w.alloc (T #[Z a0 S.n0 c0,Z a1 S.n1 c1] 26)).alloc (T #[Z a0 S.n0 c0,Z a1 S.n1 c1,Z Y 0 0,Z Y 0 0,Z Y 0 0,Q I 0,U ⟨#[]⟩,Z Y 0 0,QA D] 132)=W0 at H QJ ⊢;obtain⟨hb,P⟩:∃ hb,hb=w.heap.size+1:=⟨_,rfl⟩
 rw[<-P] at QJ ⊢;have QQ:w.heap.size<=hb:=by omega
 clear P;refine(HM W0 hb QJ).mono ?_;clear HM;rintro e o l;rcases R with ⟨made',x⟩ | c | d
 ·obtain⟨L,md,or,st,rfl,K,hrel,-,f⟩:=l
  have q:=ae (H.trans f.below);have fd:=ae hrel;obtain⟨A,G⟩:∃ A,A=(cR x).code:=⟨_,rfl⟩
  obtain⟨z,QN⟩:∃ z,z=(cR x).text:=⟨_,rfl⟩
  have aq:=ae G;have ex:=ae QN;rw[<-G,<-QN];have i:=ae ((Qs o).alloc lr (T #[Q I A,U z,Z Y 0 0] 41));have B:=ae (K.below i lr);clear f hrel K G QN;obtain⟨QM,-,-,-,-,-,b5,b6,b7,b8,QL⟩:=B.box.facts;have bf5:=QL 5;have bf6:=QL 6;have bf7:=QL 7;clear QL;go_wp2_with fail;go_ret;have y:∀ {size n:Nat} {O:TypeId} {u:QB} {QK:List QB},(o.alloc (T #[Q I A,U z,Z Y 0 0] 41)).ownsRow w.heap.size O size u n QK->132≠O->((((o.alloc (T #[Q I A,U z,Z Y 0 0] 41)).setCell (J hb 5 Y) (Q I A)).setCell (J hb 6 Y) (U z)).setCell (J hb 7 Y) (Z Y 0 0)).ownsRow w.heap.size O size u n QK:=fun hr ht=>by
   rename_i size n O u QK;have QO:u.ownBlock≠N hb:=fun e=>by obtain⟨_,_,cs2,la⟩:=af hr hb e;exact absurd (ah B.box la) ht
   exact az (az (az hr QO _ _) QO _ _) QO _ _
  refine⟨hb,rfl,⟨L,md,or,st,?_,y B.rmd (by decide),y B.ror (by decide),fun m V hd=>y (B.seen m V hd) (by decide),fd⟩,?_⟩
  ·rw[<-aq.out,<-ex.out]
   exact aw (aw (aw B.box (j:=5) _) (j:=6) _) (j:=7) _
  ·exact(((q.trans (i.mono q.size)).setCell (p:=(J hb 5 Y)) QQ _).setCell (p:=(J hb 6 Y)) QQ _).setCell (p:=(J hb 7 Y)) QQ _
 ·obtain⟨a,k,rfl,⟨s0,s1,bt,QG,QH,g,b⟩,f⟩:=l
  have r:=ae g;have QP:=ae b;have q:=ae (H.trans f.below);clear g b f;unfold gK jw;dsimp only;have i:=ae ((Qs o).alloc lr (T #[Q I 6,U ⟨#[]⟩,Z a c.length k] 41));have s:=ae (ShBox.blk r (i.block _ (ai r)));obtain⟨QM,-,-,-,-,-,-,-,-,b8,-⟩:=s.facts;go_wp2_with fail;go_ret;exact⟨hb,rfl,⟨a,k,_,_,_,_,_,s,own_below QP i lr⟩,q.trans (i.mono q.size)⟩
 ·obtain⟨rfl,⟨s0,s1,bt,QG,QH,g,b⟩,f⟩:=l
  have r:=ae g;have QP:=ae b;have q:=ae (H.trans f.below);clear g b f;unfold gK jx;dsimp only;have i:=ae ((Qs o).alloc lr (T #[Q I 7,U d,Z Y 0 0] 41));have s:=ae (ShBox.blk r (i.block _ (ai r)));obtain⟨QM,-,-,-,-,-,-,-,-,b8,-⟩:=s.facts;go_wp2_with fail;go_ret;exact⟨hb,rfl,⟨_,_,_,_,_,s,own_below QP i lr⟩,q.trans (i.mono q.size)⟩
end
theorem BP (w:E)(f:Int)(d:ByteArray):Calls Tryz.prog 94 #[QE #[Q I f,U d,Z Y 0 0]] w fun e z=>∃ QQ,e=QD QQ/\iJ w z ⟨f,d,[]⟩ QQ/\Below w.heap.size w z:=by
 have o:=ae (((Qs w).alloc lr (T #[Q I f,U d,Z Y 0 0] 41)).alloc (by simp) (T #[Q I 0,U ⟨#[]⟩,Z Y 0 0] 41));have t:Hid (((w.alloc (T #[Q I f,U d,Z Y 0 0] 41)).alloc (T #[Q I 0,U ⟨#[]⟩,Z Y 0 0] 41)).heap[w.heap.size+1]?=N (T #[Q I 0,U ⟨#[]⟩,Z Y 0 0] 41 (0,0))):=by have h2:=eL (w.alloc (T #[Q I f,U d,Z Y 0 0] 41)) (T #[Q I 0,U ⟨#[]⟩,Z Y 0 0] 41);rw[show(w.alloc (T #[Q I f,U d,Z Y 0 0] 41)).heap.size=w.heap.size+1 by simp] at h2;exact h2
 have G:Hid (((w.alloc (T #[Q I f,U d,Z Y 0 0] 41)).alloc (T #[Q I 0,U ⟨#[]⟩,Z Y 0 0] 41)).heap[w.heap.size]?=N (T #[Q I f,U d,Z Y 0 0] 41 (0,0))):=by have h2:=eL w (T #[Q I f,U d,Z Y 0 0] 41);exact(((eI (w.heap.size+1) _).alloc (by simp) _).block w.heap.size (by omega)).trans h2
 go_enter Tryz.func94,Tryz.ntmps94;go_upto_region 1 with fail;generalize (w.alloc (T #[Q I f,U d,Z Y 0 0] 41)).alloc (T #[Q I 0,U ⟨#[]⟩,Z Y 0 0] 41)=b at o t G ⊢;obtain⟨-,QP,B,y,-⟩:=aZ G;have x:w.heap.size+1<b.heap.size:=ai t.out;have q:Hid (∀ V:E,(∀ k,k<b.heap.size->V.heap[k]?=b.heap[k]?)->V.cell? (J w.heap.size 0 Y)=N (Q I f)/\V.cell? (J w.heap.size 1 Y)=N (U d)/\V.cell? (J w.heap.size 2 Y)=N (Z Y 0 0)):=fun V s=>by have e:=cq (a:=(J w.heap.size 0 Y)) (s w.heap.size (by omega));have QO:=cq (a:=(J w.heap.size 1 Y)) (s w.heap.size (by omega));have QN:=cq (a:=(J w.heap.size 2 Y)) (s w.heap.size (by omega));exact⟨e.trans QP,QO.trans B,QN.trans y⟩
 have l:=ae (q b.drew (fun k m=>rfl));refine bm (fun V=>V.cell? (J w.heap.size 0 Y)=N (Q I f)/\V.cell? (J w.heap.size 1 Y)=N (U d)/\V.cell? (J w.heap.size 2 Y)=N (Z Y 0 0)) 9 (by as_aux_lemma=>kernel_rfl) ?_;clear QP B y
 iterate 4
  refine bw 0 (v:=?_) rfl rfl (by as_aux_lemma=>kernel_rfl) (fun _ _ _ h=>h) rfl ?_ l ?_;rotate_left
  ·(intro H g;obtain⟨s0,s1,C⟩:=g;go_simp)
   (try with_reducible rfl)
  (try simp only[Act.put,nzL])
 iterate 2
  refine bw 5 (v:=?_) rfl rfl (by as_aux_lemma=>kernel_rfl) (fun _ _ _ h=>h) rfl ?_ l ?_;rotate_left
  ·(intro H g;obtain⟨s0,s1,C⟩:=g;go_simp)
   (try with_reducible rfl)
  (try simp only[Act.put,nzL])
 refine ar (i:=4) rfl (by as_aux_lemma=>kernel_rfl) (fun K j=>?_);go_simp;have AB:=ae (((Qs b).drew).alloc lr (T #[] 9));refine j _ _ (fun _=>q _ (fun k m=>AB.block k m)) ?_;clear j K
 (try simp only[Act.put,nzL])
 refine ar (i:=7) rfl (by as_aux_lemma=>kernel_rfl) (fun K j=>?_);go_simp;have n:Hid (Below b.heap.size b (b.alloc (T #[] 9)).drew):=((Qs b).alloc lr _).drew;refine j _ _ (fun _=>q _ (fun k m=>n.block k m)) ?_;clear j K
 (try simp only[Act.put,nzL])
 have u:Hid ((b.alloc (T #[] 9)).drew.ownsRow b.heap.size 9 1 (Z (N (J b.heap.size 0 Y)) 0 0) 0 []):=own_below (jW b 9 1) br.drew lr;generalize (b.alloc (T #[] 9)).drew=L at n u ⊢;have A:=ae (q L (fun k m=>n.block k m));clear l;have l:=ae A.out;refine bw 8 (v:=?_) rfl rfl (by as_aux_lemma=>kernel_rfl) (fun _ _ _ h=>h) rfl ?_ l ?_;rotate_left
 ·(intro H g;obtain⟨s0,s1,C⟩:=g;go_simp)
  (try with_reducible rfl)
 (try simp only[Act.put,nzL])
 obtain⟨rl,r0,r1,M,r⟩:=aZ ((n.block _ x).trans t);have rf0:=r 0;have rf1:=r 1;have rf2:=r 2;clear r;refine ar (i:=9) rfl (by as_aux_lemma=>kernel_rfl) (fun K j=>?_);go_simp;refine j _ _ (fun h=>absurd rfl h) ?_;clear j K l
 (try simp only[Act.put])
 refine bJ (by as_aux_lemma=>kernel_rfl) ?_ _;go_wp2_with fail;refine bp (v:=QE #[Q I f,U d,Z (N (J b.heap.size 0 Y)) 0 0]) (by simp[results,Tryz.results94,go_sem,r0,r1,M]) rfl ⟨_,rfl,⟨N (J b.heap.size 0 Y),0,rfl,?_⟩,?_⟩
 ·refine aI (az (az (az u (fun e=>?_) _ _) (fun e=>?_) _ _) (fun e=>?_) _ _) o.size
  all_goals
   have:=(af u _ e).1;omega
 ·exact(((o.trans (n.mono o.size)).setCell (p:=(J (w.heap.size+1) 0 Y)) (AS _) _).setCell (p:=(J (w.heap.size+1) 1 Y)) (AS _) _).setCell (p:=(J (w.heap.size+1) 2 Y)) (AS _) _
theorem zj (w:E)(d:Int)(f:ByteArray)(y:List ByteArray)(g n c B:Nat)(hn:n=y.length)(hlen:n<=1000)(R:w.ownsRow B 9 1 (Z (N (J g 0 Y)) n c) n (bq y)):Calls Tryz.prog 94 #[QE #[Q I d,U f,Z (N (J g 0 Y)) n c]] w fun e QL=>∃ QK,e=QD QK/\iJ w QL ⟨d,f,y⟩ QK/\Below w.heap.size w QL:=by
 obtain⟨i1,QJ,M,QG,bt⟩:=eZ gL;have HO:=ae R;have QO:=ae hn;clear R hn;have C:=ae (((Qs w).alloc lr (T #[Q I d,U f,Z (N (J g 0 Y)) n c] 41)).alloc (by simp) (T #[Q I 0,U ⟨#[]⟩,Z Y 0 0] 41));have QN:Hid (((w.alloc (T #[Q I d,U f,Z (N (J g 0 Y)) n c] 41)).alloc (T #[Q I 0,U ⟨#[]⟩,Z Y 0 0] 41)).heap[w.heap.size+1]?=N (T #[Q I 0,U ⟨#[]⟩,Z Y 0 0] 41 (0,0))):=by have h2:=eL (w.alloc (T #[Q I d,U f,Z (N (J g 0 Y)) n c] 41)) (T #[Q I 0,U ⟨#[]⟩,Z Y 0 0] 41);rw[show(w.alloc (T #[Q I d,U f,Z (N (J g 0 Y)) n c] 41)).heap.size=w.heap.size+1 by simp] at h2;exact h2
 have kP:Hid (((w.alloc (T #[Q I d,U f,Z (N (J g 0 Y)) n c] 41)).alloc (T #[Q I 0,U ⟨#[]⟩,Z Y 0 0] 41)).heap[w.heap.size]?=N (T #[Q I d,U f,Z (N (J g 0 Y)) n c] 41 (0,0))):=by have h2:=eL w (T #[Q I d,U f,Z (N (J g 0 Y)) n c] 41);exact(((eI (w.heap.size+1) _).alloc (by simp) _).block w.heap.size (by omega)).trans h2
 go_enter Tryz.func94,Tryz.ntmps94;go_upto_region 1 with fail;generalize (w.alloc (T #[Q I d,U f,Z (N (J g 0 Y)) n c] 41)).alloc (T #[Q I 0,U ⟨#[]⟩,Z Y 0 0] 41)=b at C QN kP ⊢;obtain⟨-,QH,P,W,-⟩:=aZ kP;have L:w.heap.size+1<b.heap.size:=ai QN.out;have QP:Hid (∀ V:E,(∀ k,k<b.heap.size->V.heap[k]?=b.heap[k]?)->V.cell? (J w.heap.size 0 Y)=N (Q I d)/\V.cell? (J w.heap.size 1 Y)=N (U f)/\V.cell? (J w.heap.size 2 Y)=N (Z (N (J g 0 Y)) n c)):=fun V H=>by have e:=cq (a:=(J w.heap.size 0 Y)) (H w.heap.size (by omega));have e1:=cq (a:=(J w.heap.size 1 Y)) (H w.heap.size (by omega));have e2:=cq (a:=(J w.heap.size 2 Y)) (H w.heap.size (by omega));exact⟨e.trans QH,e1.trans P,e2.trans W⟩
 have x:=ae (QP b.drew (fun k z=>rfl));refine bm (fun V=>V.cell? (J w.heap.size 0 Y)=N (Q I d)/\V.cell? (J w.heap.size 1 Y)=N (U f)/\V.cell? (J w.heap.size 2 Y)=N (Z (N (J g 0 Y)) n c)) 9 (by as_aux_lemma=>kernel_rfl) ?_;clear QH P W
 iterate 4
  refine bw 0 (v:=?_) rfl rfl (by as_aux_lemma=>kernel_rfl) (fun _ _ _ h=>h) rfl ?_ x ?_;rotate_left
  ·(intro wz o;obtain⟨s0,s1,S⟩:=o;go_simp)
   (try with_reducible rfl)
  (try simp only[Act.put,nzL])
 iterate 2
  refine bw 5 (v:=?_) rfl rfl (by as_aux_lemma=>kernel_rfl) (fun _ _ _ h=>h) rfl ?_ x ?_;rotate_left
  ·(intro wz o;obtain⟨s0,s1,S⟩:=o;go_simp)
   (try with_reducible rfl)
  (try simp only[Act.put,nzL])
 refine ar (i:=4) rfl (by as_aux_lemma=>kernel_rfl) (fun K r=>?_);go_simp;have AB:=ae (((Qs b).drew).alloc lr (T #[] 9));refine r _ _ (fun _=>QP _ (fun k z=>AB.block k z)) ?_;clear r K
 (try simp only[Act.put,nzL])
 have m:Hid (Below b.heap.size b (b.alloc (T #[] 9)).drew):=((Qs b).alloc lr _).drew;have A:Hid ((b.alloc (T #[] 9)).drew.ownsRow b.heap.size 9 1 (Z (N (J b.heap.size 0 Y)) 0 0) 0 []):=own_below (jW b 9 1) br.drew lr;have QM:Hid ((b.alloc (T #[] 9)).drew.ownsRow B 9 1 (Z (N (J g 0 Y)) n c) n (bq y)):=own_below (own_below HO C lr) m lr;refine ar (i:=7) rfl (by as_aux_lemma=>kernel_rfl) (fun K r=>?_);refine bA (w:=(b.alloc (T #[] 9)).drew) rfl (.tmp 7) (.tmp 9) 39 rfl b.heap.size 9 i1 (U ⟨#[]⟩) 1 16 Tryz.underlying39 QJ M QG bt rfl (by decide) (Z (N (J b.heap.size 0 Y)) 0 0) 0 [] (by simp[Act.eval]) A.out (J g 0 Y) n c (bq y) (by simp[Act.eval]) (by rw[bq,I4,<-QO.out,Nat.mul_one]) (fun q u h=>QM.cells (g:=g) rfl q u h) (fun u hu=>by rw[bq,ID] at hu;obtain⟨t,_,rfl⟩:=hu;rfl) (by unfold maxLen;omega) (by omega) m.size ?_;intro v1 X l s aq;have QQ:Hid (Below b.heap.size b X):=m.trans (bg (eI b.heap.size _) s m.size (fun j e=>(A.lt j e).1));rw[DC,IN] at l;have LO:=ae l;obtain⟨a1,c1,rfl⟩:=ej l;clear l s aq m A QM AB;refine r _ _ (fun _=>QP _ (fun k z=>QQ.block k z)) ?_;clear r K
 (try simp only[Act.put,nzL])
 have O:=ae (QP X (fun k z=>QQ.block k z));clear x;have x:=ae O.out;refine bw 8 (v:=?_) rfl rfl (by as_aux_lemma=>kernel_rfl) (fun _ _ _ h=>h) rfl ?_ x ?_;rotate_left
 ·(intro wz o;obtain⟨s0,s1,S⟩:=o;go_simp)
  (try with_reducible rfl)
 (try simp only[Act.put,nzL])
 obtain⟨rl,r0,r1,r2,G⟩:=aZ ((QQ.block _ L).trans QN);have rf0:=G 0;have rf1:=G 1;have rf2:=G 2;clear G;refine ar (i:=9) rfl (by as_aux_lemma=>kernel_rfl) (fun K r=>?_);go_simp;refine r _ _ (fun h=>absurd rfl h) ?_;clear r K x
 (try simp only[Act.put])
 refine bJ (by as_aux_lemma=>kernel_rfl) ?_ _;go_wp2_with fail;refine bp (v:=QE #[Q I d,U f,Z a1 n c1]) (by simp[results,Tryz.results94,go_sem,r0,r1,r2]) rfl ⟨_,rfl,⟨a1,c1,by rw[<-QO.out],?_⟩,?_⟩
 ·show World.ownsRow _ _ _ _ _ y.length _
  rw[<-QO.out];refine aI (az (az (az LO (fun e=>?_) _ _) (fun e=>?_) _ _) (fun e=>?_) _ _) C.size;all_goals
   have:=(af LO _ e).1;omega
 ·exact(((C.trans (QQ.mono C.size)).setCell (p:=(J (w.heap.size+1) 0 Y)) (AS _) _).setCell (p:=(J (w.heap.size+1) 1 Y)) (AS _) _).setCell (p:=(J (w.heap.size+1) 2 Y)) (AS _) _
theorem xD (w:E)(r:ResL)(a:Option Addr)(c B:Nat)(d:w.ownsRow B 9 1 (Z a r.chain.length c) r.chain.length (bq r.chain))(b:r.chain.length<=1000):Calls Tryz.prog 94 #[QE #[Q I r.code,U r.text,Z a r.chain.length c]] w fun e j=>∃ l,e=QD l/\iJ w j r l/\Below w.heap.size w j:=by
 obtain⟨k,m,f⟩:=r;simp only at d b ⊢;obtain⟨h0,⟨h,o⟩ | ⟨g,cap,cur,h,h2⟩⟩:=id d
 ·have n:f=[]:=List.length_eq_zero_iff.1 o
  subst n;cases h
  exact BP w k m
 ·have i:=h
  simp only[CL] at i;obtain⟨rfl,-,rfl⟩:=i;exact zj w k m f g f.length c B rfl b d
theorem xE {S:Spc}{lies:List Ent->ByteArray->Out Ent}{t K:Nat}(j:∀ b nm c,lies b nm=.inr (.inl c)->c.length<=K):∀ k b d f c,bO S lies t k b d f=.inr (.inl c)->c.length<=K:=by
 intro k;induction k with
 | zero=>intro b d f c h;cases h
 | succ k g =>
  intro b d f c h;rw[bO] at h;split at h
  ·cases h
  ·split at h
   ·exact g _ _ _ _ h
   ·split at h
    ·exact g _ _ _ _ h
    ·rename_i c' i
     cases h
     exact j _ _ _ i
    ·cases h
theorem mV (S:Spc):∀ n b f nm c,aL S n b f nm=.inr (.inl c)->c.length<=b.length+n:=by
 intro n;have g:∀ b f nm c (K:Nat) (tgt:Nat->Out Ent),b.length<=K->(∀ t c,tgt t=.inr (.inl c)->c.length<=K)->dm S tgt b f nm=.inr (.inl c)->c.length<=K:=by
  intro b f nm c K tgt hK j h;unfold dm at h;split at h
  ·cases h
  ·split at h
   ·cases h
    rw[II];omega
   ·unfold d9 dP at h
    split at h
    ·cases h
    ·split at h
     ·exact j _ _ h
     ·cases h
 induction n with
 | zero =>intro b f nm c h;rw[aL] at h;exact g _ _ _ _ _ _ (by omega) (fun t c h=>by cases h) h
 | succ n i =>
  intro b f nm c h;rw[aL] at h;refine g _ _ _ _ _ _ (by omega) (fun t c h=>?_) h;rcases hr:bO S (aL S n (b++[nm])) t 201 f [] [] with ⟨made1,x⟩ | c1 | d
  ·rw[hr] at h;cases h
  ·rw[hr] at h
   cases h
   refine xE (fun f nm2 c2 h2=>?_) _ _ _ _ _ hr;have:=i _ _ _ _ h2;rw[cM,p8] at this;omega
  ·rw[hr] at h;cases h
section
variable {S:Spc}{a0 a1:Option Addr}{c0 c1:Nat}
theorem re (w:E)(nm:ByteArray)(o:SlSource w a0 S.n0 S.f0)(r:SlTarget w a1 S.n1 S.f1)(hn0:S.n0<=1048576)(hn1:S.n1<=1048576)(m:∀ i,i<S.n1->aS (S.f1 i))(QQ:∀ i,i<S.n1->∀ j,j<(S.f1 i).actN->((S.f1 i).act j).s.size<=maxLen)(k:¬ (aU S.n0 S.f0 S.n1 S.f1=0/\au nm=QC)):Calls Tryz.prog 23 #[QE #[Z a0 S.n0 c0,Z a1 S.n1 c1],U nm] w fun e G=>∃ H,e=QD H/\iJ w G ⟨9,⟨#[]⟩,[]⟩ H/\Below w.heap.size w G:=by
 have f:=ae (((Qs w).alloc lr (T #[Z a0 S.n0 c0,Z a1 S.n1 c1] 26)).alloc (by simp) (T #[Q I 0,U ⟨#[]⟩,Z Y 0 0] 41));have g:=ae (fL a0 S.n0 c0 S.f0 a1 S.n1 c1 S.f1 ((w.alloc (T #[Z a0 S.n0 c0,Z a1 S.n1 c1] 26)).alloc (T #[Q I 0,U ⟨#[]⟩,Z Y 0 0] 41)) (by omega) (by omega) (o.below f lr) (r.below f lr) m QQ);have l:Hid (((w.alloc (T #[Z a0 S.n0 c0,Z a1 S.n1 c1] 26)).alloc (T #[Q I 0,U ⟨#[]⟩,Z Y 0 0] 41)).heap[w.heap.size+1]?=N (T #[Q I 0,U ⟨#[]⟩,Z Y 0 0] 41 (0,0))):=by have h2:=eL (w.alloc (T #[Z a0 S.n0 c0,Z a1 S.n1 c1] 26)) (T #[Q I 0,U ⟨#[]⟩,Z Y 0 0] 41);rw[show(w.alloc (T #[Z a0 S.n0 c0,Z a1 S.n1 c1] 26)).heap.size=w.heap.size+1 by simp] at h2;exact h2
 obtain⟨x,n⟩:∃ x,x=aU S.n0 S.f0 S.n1 S.f1:=⟨_,rfl⟩
 rw[<-n] at g k;have A:=ae k;clear o r m QQ n k hn0 hn1;by_cases QN:x=0
 ·have B:Hid (au nm=D):=by
   cases h:au nm with
   | false=>rfl
   | true=>exact absurd ⟨QN,h⟩ A
  subst QN;go_enter Tryz.func23,Tryz.ntmps23;go_wp2_with fail;generalize (w.alloc (T #[Z a0 S.n0 c0,Z a1 S.n1 c1] 26)).alloc (T #[Q I 0,U ⟨#[]⟩,Z Y 0 0] 41)=L at f g l ⊢;refine g.mono ?_;clear g;rintro e QP ⟨rfl,b⟩;have y:=ae (f.trans (b.mono f.size));have q:=ae ((b.block _ (ai l)).trans l);clear b;go_wp2_with fail;refine(cX nm QP).mono ?_;rintro e w2 ⟨K,b⟩;rw[B.out] at K;subst K;have t:=ae (y.trans (b.mono y.size));obtain⟨rl,r0,r1,u,d⟩:=aZ ((b.block _ (ai q)).trans q);have C:=d 0;have QO:=d 1;have z:=d 2;clear d b;go_wp2_with fail;refine bp (v:=QE #[Q I 9,U ⟨#[]⟩,Z Y 0 0]) (by simp[results,Tryz.results23,go_sem,r0,r1,u]) rfl ⟨_,rfl,ik _ _ _ _,?_⟩;exact((t.setCell (p:=(J (w.heap.size+1) 0 Y)) (AS _) _).setCell (p:=(J (w.heap.size+1) 1 Y)) (AS _) _).setCell (p:=(J (w.heap.size+1) 2 Y)) (AS _) _
 ·go_enter Tryz.func23,Tryz.ntmps23
  go_wp2_with fail;generalize (w.alloc (T #[Z a0 S.n0 c0,Z a1 S.n1 c1] 26)).alloc (T #[Q I 0,U ⟨#[]⟩,Z Y 0 0] 41)=L at f g l ⊢;refine g.mono ?_;clear g;rintro e QP ⟨rfl,b⟩;have t:=ae (f.trans (b.mono f.size));obtain⟨rl,r0,r1,u,d⟩:=aZ ((b.block _ (ai l)).trans l);have C:=d 0;have QO:=d 1;have z:=d 2;clear d b;go_wp2_with fail;refine bp (v:=QE #[Q I 9,U ⟨#[]⟩,Z Y 0 0]) (by simp[results,Tryz.results23,go_sem,r0,r1,u]) rfl ⟨_,rfl,ik _ _ _ _,?_⟩;exact((t.setCell (p:=(J (w.heap.size+1) 0 Y)) (AS _) _).setCell (p:=(J (w.heap.size+1) 1 Y)) (AS _) _).setCell (p:=(J (w.heap.size+1) 2 Y)) (AS _) _
end
theorem xF {S:Spc}{l i:E}{hb:Nat}{s0 s1:QB}{nm:ByteArray}(h1:aU S.n0 S.f0 S.n1 S.f1=0)(h2:au nm=QC)(h:vB l hb s0 s1 i (aL S 60 [] [] nm)):∃ u0 u1 g f st a k d,ShBox i hb u0 u1 g f st (bj S nm).2.code (bj S nm).2.text (Z a (bj S nm).2.chain.length k) d/\i.ownsRow l.heap.size 9 1 (Z a (bj S nm).2.chain.length k) (bj S nm).2.chain.length (bq (bj S nm).2.chain)/\(bj S nm).2.chain.length<=1000:=by
 unfold bj;rw[eT ⟨h1,h2⟩];rcases hl:aL S 60 [] [] nm with ⟨made',x⟩ | c | d
 ·rw[hl] at h
  obtain⟨L,g,f,st,b,-⟩:=h;have m:(cR x).chain=[]:=by unfold cR;split<;>rfl
  dsimp only;rw[m];refine⟨s0,s1,g,f,st,Y,0,D,?_,?_,?_⟩
  ·exact b
  ·exact⟨rfl,.inl ⟨rfl,rfl⟩⟩
  ·exact CS _
 ·rw[hl] at h
  obtain⟨a,k,u0,u1,g,f,st,b,j⟩:=h;have:=mV S 60 [] [] nm c hl;exact⟨u0,u1,g,f,st,a,k,QC,b,j,j5 this (by simp)⟩
 ·rw[hl] at h
  obtain⟨u0,u1,g,f,st,b,j⟩:=h;exact⟨u0,u1,g,f,st,Y,0,QC,b,j,CS _⟩
section
variable {S:Spc}{a0 a1:Option Addr}{c0 c1:Nat}
theorem tD (w:E)(nm:ByteArray)(n:SlSource w a0 S.n0 S.f0)(m:SlTarget w a1 S.n1 S.f1)(hn0:S.n0<=1048576)(hn1:S.n1<=1048576)(l:∀ i,i<S.n1->aS (S.f1 i))(O:∀ i,i<S.n1->∀ j,j<(S.f1 i).actN->((S.f1 i).act j).s.size<=maxLen)(h1:aU S.n0 S.f0 S.n1 S.f1=0)(h2:au nm=QC):Calls Tryz.prog 23 #[QE #[Z a0 S.n0 c0,Z a1 S.n1 c1],U nm] w fun e P=>∃ K,e=QD K/\iJ w P (bj S nm).2 K/\Below w.heap.size w P:=by
 have o:=ae (((Qs w).alloc lr (T #[Z a0 S.n0 c0,Z a1 S.n1 c1] 26)).alloc (by simp) (T #[Q I 0,U ⟨#[]⟩,Z Y 0 0] 41));have x:=ae (fL a0 S.n0 c0 S.f0 a1 S.n1 c1 S.f1 ((w.alloc (T #[Z a0 S.n0 c0,Z a1 S.n1 c1] 26)).alloc (T #[Q I 0,U ⟨#[]⟩,Z Y 0 0] 41)) (by omega) (by omega) (n.below o lr) (m.below o lr) l O);have QO:Hid (((w.alloc (T #[Z a0 S.n0 c0,Z a1 S.n1 c1] 26)).alloc (T #[Q I 0,U ⟨#[]⟩,Z Y 0 0] 41)).heap[w.heap.size+1]?=N (T #[Q I 0,U ⟨#[]⟩,Z Y 0 0] 41 (0,0))):=by have h2:=eL (w.alloc (T #[Z a0 S.n0 c0,Z a1 S.n1 c1] 26)) (T #[Q I 0,U ⟨#[]⟩,Z Y 0 0] 41);rw[show(w.alloc (T #[Z a0 S.n0 c0,Z a1 S.n1 c1] 26)).heap.size=w.heap.size+1 by simp] at h2;exact h2
 have QP:Hid (((w.alloc (T #[Z a0 S.n0 c0,Z a1 S.n1 c1] 26)).alloc (T #[Q I 0,U ⟨#[]⟩,Z Y 0 0] 41)).heap[w.heap.size]?=N (T #[Z a0 S.n0 c0,Z a1 S.n1 c1] 26 (0,0))):=by have h2:=eL w (T #[Z a0 S.n0 c0,Z a1 S.n1 c1] 26);exact(((eI (w.heap.size+1) _).alloc (by simp) _).block w.heap.size (by omega)).trans h2
 have V0:=ae n;have V1:=ae m;have QK:=ae (SpcOk.of h1);have H1:=ae h1;have L:=ae h2;rw[h1] at x;obtain⟨r,G⟩:∃ r,r=(bj S nm).2:=⟨_,rfl⟩
 have HR:=ae G;rw[<-G];clear n m l O hn0 hn1 h1 h2 G;go_enter Tryz.func23,Tryz.ntmps23;go_wp2_with fail;generalize (w.alloc (T #[Z a0 S.n0 c0,Z a1 S.n1 c1] 26)).alloc (T #[Q I 0,U ⟨#[]⟩,Z Y 0 0] 41)=W0 at o x QO QP ⊢;refine x.mono ?_;clear x;rintro e QH ⟨rfl,b⟩;have R:=ae (o.trans (b.mono o.size));have QQ:=ae ((b.block _ (ai QO)).trans QO);have y:=ae ((b.block _ (ai QP)).trans QP);clear b;go_wp2_with fail;refine(cX nm QH).mono ?_;rintro e q ⟨W,b⟩;rw[L.out] at W;subst W;have u:=ae (R.trans (b.mono R.size));have C:=ae ((b.block _ (ai QQ)).trans QQ);have h:=ae ((b.block _ (ai y)).trans y);have hsl:w.heap.size<q.heap.size:=ai h.out;have q0:q.cell? (J w.heap.size 0 Y)=N (Z a0 S.n0 c0):=by simp[World.cell?,h.out]
 have q1:q.cell? (J w.heap.size 1 Y)=N (Z a1 S.n1 c1):=by simp[World.cell?,h.out]
 clear b;go_wp2_with fail;refine(ux q ⟨V0.below u lr,V1.below u lr,QK⟩ nm L).mono ?_;rintro e M ⟨hb,rfl,z,b⟩;obtain⟨u0,u1,md,or,st,a,k,d,A,QN,f⟩:=xF H1 L z;rw[<-HR.out] at A QN f;have H:=ae (u.trans (b.mono u.size));have g:=ae ((b.block _ (ai C)).trans C);have QJ:=ae (xD M r a k _ QN f);clear q0 q1 b z QN f;obtain⟨hbl,-,-,-,-,-,X,QG,b7,-,-⟩:=A.facts;have QM:w.heap.size<=M.heap.size:=H.size;go_wp2_with fail;refine QJ.mono ?_;rintro e w4 ⟨K,rfl,⟨V,c4,rfl,B⟩,b⟩;have B4:=ae (H.trans (b.mono H.size));have QL:=ae B;obtain⟨rl,r0,r1,r2,t⟩:=aZ ((b.block _ (ai g)).trans g);have rf0:=t 0;have rf1:=t 1;have rf2:=t 2;have hz3:w.heap.size+1<M.heap.size:=ai g.out;clear t b B X QG b7;go_wp2_with fail;refine bp (v:=QE #[Q I r.code,U r.text,Z V r.chain.length c4]) (by simp[results,Tryz.results23,go_sem,r0,r1,r2]) rfl ⟨_,rfl,⟨V,c4,rfl,?_⟩,?_⟩
 ·refine aI (az (az (az QL (fun e=>?_) _ _) (fun e=>?_) _ _) (fun e=>?_) _ _) QM
  all_goals
   have:=(af QL _ e).1;omega
 ·exact((B4.setCell (p:=(J (w.heap.size+1) 0 Y)) (AS _) _).setCell (p:=(J (w.heap.size+1) 1 Y)) (AS _) _).setCell (p:=(J (w.heap.size+1) 2 Y)) (AS _) _
theorem rh (w:E)(nm:ByteArray)(d:SlSource w a0 S.n0 S.f0)(f:SlTarget w a1 S.n1 S.f1)(hn0:S.n0<=1048576)(hn1:S.n1<=1048576)(b:∀ i,i<S.n1->aS (S.f1 i))(k:∀ i,i<S.n1->∀ j,j<(S.f1 i).actN->((S.f1 i).act j).s.size<=maxLen):Calls Tryz.prog 23 #[QE #[Z a0 S.n0 c0,Z a1 S.n1 c1],U nm] w fun e g=>∃ l,e=QD l/\iJ w g (bj S nm).2 l/\Below w.heap.size w g:=by
 by_cases h:aU S.n0 S.f0 S.n1 S.f1=0/\au nm=QC
 ·exact tD w nm d f hn0 hn1 b k h.1 h.2
 ·have e:(bj S nm).2=⟨9,⟨#[]⟩,[]⟩:=by unfold bj;rw[a8 h]
  rw[e];exact re w nm d f hn0 hn1 b k h
end
end Go.Proofs.YtkdimgejdocbbaaGreatDoor.Vp
namespace Go.Proofs.YtkdimgejdocbbaaGreatDoor.Vp
open RowKit
theorem uy (S:Spc)(nm:ByteArray):(bj S nm).2.chain.length<=60:=by
 unfold bj;split
 ·have h:=mV S 60 [] [] nm
  split
  ·unfold cR
   split<;>simp
  ·rename_i c e
   have:=h c e;simpa using this
  ·simp
 ·simp
end Go.Proofs.YtkdimgejdocbbaaGreatDoor.Vp
