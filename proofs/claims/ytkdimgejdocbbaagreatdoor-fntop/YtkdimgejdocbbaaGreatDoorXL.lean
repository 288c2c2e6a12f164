import Derived.Test.YtkdimgejdocbbaaGreatDoorXH
import Derived.Test.YtkdimgejdocbbaaGreatDoorXJ
set_option maxRecDepth 100000
set_option maxHeartbeats 4000000
open Go.Addr renaming mk->J
open Go.Value renaming slice->Y,string->U,int->N,bool->QA,agg->QE
open Option renaming none->Z,some->Q
open Go.Obj renaming cells->T
open Go.IntKind renaming i64->I
open Go renaming World->E,Value->QB
open Bool renaming false->D,true->QC
open Go.Ending renaming returned->QD
namespace Go.Proofs.YtkdimgejdocbbaaGreatDoor.Vp
open RowKit Ca
def vB (f:E)(hb:Nat)(s0 s1:QB)(b:E):Out Ent->Prop
 | .inl (made',x)=>∃ L g h st,ShBox b hb s0 s1 g h st (cR x).code (cR x).text (Y Z 0 0) D/\b.ownsRow f.heap.size 239 6 g L.length (L.flatMap smV)/\b.ownsRow f.heap.size 9 1 h made'.length (bq (made'.map (·.name)))/\(∀ m∈L,m.done=QC->b.ownsRow f.heap.size 242 3 m.sv m.seen.length (eY m.seen))/\fE L [] made'
 | .inr (.inl c)=>∃ a k,ij f hb b (jw c) (Y a c.length k)
 | .inr (.inr d)=>ij f hb b (jx d) (Y Z 0 0)
section
variable {S:Spc}{a0 a1:Option Addr}{c0 c1:Nat}
theorem ux (w:E)(C:kX w S a0 a1)(nm:ByteArray)(hn:au nm=QC):Calls Tryz.prog 95 #[QE #[Y a0 S.n0 c0,Y a1 S.n1 c1],U nm] w fun e M=>∃ hb,e=QD (.pointer (Q (J hb 0 Z)))/\vB w hb (Y a0 S.n0 c0) (Y a1 S.n1 c1) M (aL S 60 [] [] nm)/\Below w.heap.size w M:=by
 obtain⟨R,hR⟩:∃ R,R=aL S 60 [] [] nm:=⟨_,rfl⟩
 have HM:Hid (∀ (W:E) (hb:Nat),SI w hb (Y a0 S.n0 c0) (Y a1 S.n1 c1) W [] [] [] (Y Z 0 0) (Y Z 0 0) (Y Z 0 0)->Calls Tryz.prog 167 #[.pointer (Q (J hb 0 Z)),U nm] W fun e M=>jg w hb (Y a0 S.n0 c0) (Y a1 S.n1 c1) [] [] W e M R):=by intro W hb QM;rw[hR];refine Bu C 60 [] [] [] _ _ _ W nm rfl QM ⟨List.Pairwise.nil,rfl,fun x t=>absurd t nj,fun x t=>absurd t nj,fun x t=>absurd t nj⟩ (fH S []) ?_ (fun x t=>absurd t nj) hn;have h1:=tC S;have h2:=C.ok.small;unfold eJ;simp only[ES];omega
 rw[<-hR];have zA:(w.alloc (T #[Y a0 S.n0 c0,Y a1 S.n1 c1] 26)).heap.size=w.heap.size+1:=by simp
 have QP:=ae (((Qs w).alloc lr (T #[Y a0 S.n0 c0,Y a1 S.n1 c1] 26)).alloc (by simp) (T #[Y a0 S.n0 c0,Y a1 S.n1 c1,Y Z 0 0,Y Z 0 0,Y Z 0 0,N I 0,U ⟨#[]⟩,Y Z 0 0,QA D] 132));have QJ:Hid (SI w (w.heap.size+1) (Y a0 S.n0 c0) (Y a1 S.n1 c1) ((w.alloc (T #[Y a0 S.n0 c0,Y a1 S.n1 c1] 26)).alloc (T #[Y a0 S.n0 c0,Y a1 S.n1 c1,Y Z 0 0,Y Z 0 0,Y Z 0 0,N I 0,U ⟨#[]⟩,Y Z 0 0,QA D] 132)) [] [] [] (Y Z 0 0) (Y Z 0 0) (Y Z 0 0)):=by refine⟨QP,AS _,?_,⟨rfl,.inl ⟨rfl,rfl⟩⟩,⟨rfl,.inl ⟨rfl,rfl⟩⟩,⟨rfl,.inl ⟨rfl,rfl⟩⟩,(fun k h=>by cases h),fun m V=>absurd V nj⟩;have h2:=eL (w.alloc (T #[Y a0 S.n0 c0,Y a1 S.n1 c1] 26)) (T #[Y a0 S.n0 c0,Y a1 S.n1 c1,Y Z 0 0,Y Z 0 0,Y Z 0 0,N I 0,U ⟨#[]⟩,Y Z 0 0,QA D] 132);rw[zA] at h2;exact h2
 clear hn C hR zA;go_enter Tryz.func95,Tryz.ntmps95;go_wp2_with fail;generalize (w.alloc (T #[Y a0 S.n0 c0,Y a1 S.n1 c1] 26)).alloc (T #[Y a0 S.n0 c0,Y a1 S.n1 c1,Y Z 0 0,Y Z 0 0,Y Z 0 0,N I 0,U ⟨#[]⟩,Y Z 0 0,QA D] 132)=W0 at QP QJ ⊢;obtain⟨hb,QL⟩:∃ hb,hb=w.heap.size+1:=⟨_,rfl⟩
 rw[<-QL] at QJ ⊢;have QN:w.heap.size<=hb:=by omega
 clear QL;refine(HM W0 hb QJ).mono ?_;clear HM;rintro e r l;rcases R with ⟨made',x⟩ | c | d
 ·obtain⟨L,md,or,st,rfl,QM,hrel,-,f⟩:=l
  have s:=ae (QP.trans f.below);have X:=ae hrel;obtain⟨B,G⟩:∃ B,B=(cR x).code:=⟨_,rfl⟩
  obtain⟨A,QQ⟩:∃ A,A=(cR x).text:=⟨_,rfl⟩
  have QG:=ae G;have aq:=ae QQ;rw[<-G,<-QQ];have i:=ae ((Qs r).alloc lr (T #[N I B,U A,Y Z 0 0] 41));have z:=ae (QM.below i lr);clear f hrel QM G QQ;obtain⟨P,-,-,-,-,-,b5,b6,b7,QH,O⟩:=z.box.facts;have bf5:=O 5;have bf6:=O 6;have bf7:=O 7;clear O;go_wp2_with fail;go_ret;have y:∀ {size n:Nat} {K:TypeId} {u:QB} {QK:List QB},(r.alloc (T #[N I B,U A,Y Z 0 0] 41)).ownsRow w.heap.size K size u n QK->132≠K->((((r.alloc (T #[N I B,U A,Y Z 0 0] 41)).setCell (J hb 5 Z) (N I B)).setCell (J hb 6 Z) (U A)).setCell (J hb 7 Z) (Y Z 0 0)).ownsRow w.heap.size K size u n QK:=fun hr ht=>by
   rename_i size n K u QK;have H:u.ownBlock≠Q hb:=fun e=>by obtain⟨_,_,cs2,ex⟩:=af hr hb e;exact absurd (ah z.box ex) ht
   exact az (az (az hr H _ _) H _ _) H _ _
  refine⟨hb,rfl,⟨L,md,or,st,?_,y z.rmd (by decide),y z.ror (by decide),fun m V hd=>y (z.seen m V hd) (by decide),X⟩,?_⟩
  ·rw[<-QG.out,<-aq.out]
   exact aw (aw (aw z.box (j:=5) _) (j:=6) _) (j:=7) _
  ·exact(((s.trans (i.mono s.size)).setCell (p:=(J hb 5 Z)) QN _).setCell (p:=(J hb 6 Z)) QN _).setCell (p:=(J hb 7 Z)) QN _
 ·obtain⟨a,k,rfl,⟨s0,s1,bt,fd,la,g,b⟩,f⟩:=l
  have q:=ae g;have QO:=ae b;have s:=ae (QP.trans f.below);clear g b f;unfold gK jw;dsimp only;have i:=ae ((Qs r).alloc lr (T #[N I 6,U ⟨#[]⟩,Y a c.length k] 41));have o:=ae (ShBox.blk q (i.block _ (ai q)));obtain⟨P,-,-,-,-,-,-,-,-,QH,-⟩:=o.facts;go_wp2_with fail;go_ret;exact⟨hb,rfl,⟨a,k,_,_,_,_,_,o,own_below QO i lr⟩,s.trans (i.mono s.size)⟩
 ·obtain⟨rfl,⟨s0,s1,bt,fd,la,g,b⟩,f⟩:=l
  have q:=ae g;have QO:=ae b;have s:=ae (QP.trans f.below);clear g b f;unfold gK jx;dsimp only;have i:=ae ((Qs r).alloc lr (T #[N I 7,U d,Y Z 0 0] 41));have o:=ae (ShBox.blk q (i.block _ (ai q)));obtain⟨P,-,-,-,-,-,-,-,-,QH,-⟩:=o.facts;go_wp2_with fail;go_ret;exact⟨hb,rfl,⟨_,_,_,_,_,o,own_below QO i lr⟩,s.trans (i.mono s.size)⟩
end
theorem BP (w:E)(f:Int)(d:ByteArray):Calls Tryz.prog 94 #[QE #[N I f,U d,Y Z 0 0]] w fun e z=>∃ G,e=QD G/\iJ w z ⟨f,d,[]⟩ G/\Below w.heap.size w z:=by
 have q:=ae (((Qs w).alloc lr (T #[N I f,U d,Y Z 0 0] 41)).alloc (by simp) (T #[N I 0,U ⟨#[]⟩,Y Z 0 0] 41));have u:Hid (((w.alloc (T #[N I f,U d,Y Z 0 0] 41)).alloc (T #[N I 0,U ⟨#[]⟩,Y Z 0 0] 41)).heap[w.heap.size+1]?=Q (T #[N I 0,U ⟨#[]⟩,Y Z 0 0] 41 (0,0))):=by have h2:=eL (w.alloc (T #[N I f,U d,Y Z 0 0] 41)) (T #[N I 0,U ⟨#[]⟩,Y Z 0 0] 41);rw[show(w.alloc (T #[N I f,U d,Y Z 0 0] 41)).heap.size=w.heap.size+1 by simp] at h2;exact h2
 have x:Hid (((w.alloc (T #[N I f,U d,Y Z 0 0] 41)).alloc (T #[N I 0,U ⟨#[]⟩,Y Z 0 0] 41)).heap[w.heap.size]?=Q (T #[N I f,U d,Y Z 0 0] 41 (0,0))):=by have h2:=eL w (T #[N I f,U d,Y Z 0 0] 41);exact(((eI (w.heap.size+1) _).alloc (by simp) _).block w.heap.size (by omega)).trans h2
 go_enter Tryz.func94,Tryz.ntmps94;go_upto_region 1 with fail;generalize (w.alloc (T #[N I f,U d,Y Z 0 0] 41)).alloc (T #[N I 0,U ⟨#[]⟩,Y Z 0 0] 41)=b at q u x ⊢;obtain⟨-,H,A,y,-⟩:=aZ x;have QQ:w.heap.size+1<b.heap.size:=ai u.out;have o:Hid (∀ V:E,(∀ k,k<b.heap.size->V.heap[k]?=b.heap[k]?)->V.cell? (J w.heap.size 0 Z)=Q (N I f)/\V.cell? (J w.heap.size 1 Z)=Q (U d)/\V.cell? (J w.heap.size 2 Z)=Q (Y Z 0 0)):=fun V t=>by have e:=cq (a:=(J w.heap.size 0 Z)) (t w.heap.size (by omega));have QN:=cq (a:=(J w.heap.size 1 Z)) (t w.heap.size (by omega));have L:=cq (a:=(J w.heap.size 2 Z)) (t w.heap.size (by omega));exact⟨e.trans H,QN.trans A,L.trans y⟩
 have m:=ae (o b.drew (fun k l=>rfl));refine bm (fun V=>V.cell? (J w.heap.size 0 Z)=Q (N I f)/\V.cell? (J w.heap.size 1 Z)=Q (U d)/\V.cell? (J w.heap.size 2 Z)=Q (Y Z 0 0)) 9 (by as_aux_lemma=>kernel_rfl) ?_;clear H A y
 iterate 4
  refine bw 0 (v:=?_) rfl rfl (by as_aux_lemma=>kernel_rfl) (fun _ _ _ h=>h) rfl ?_ m ?_;rotate_left
  ·(intro B j;obtain⟨s0,s1,C⟩:=j;go_simp)
   (try with_reducible rfl)
  (try simp only[Act.put,nzL])
 iterate 2
  refine bw 5 (v:=?_) rfl rfl (by as_aux_lemma=>kernel_rfl) (fun _ _ _ h=>h) rfl ?_ m ?_;rotate_left
  ·(intro B j;obtain⟨s0,s1,C⟩:=j;go_simp)
   (try with_reducible rfl)
  (try simp only[Act.put,nzL])
 refine ar (i:=4) rfl (by as_aux_lemma=>kernel_rfl) (fun K g=>?_);go_simp;have AB:=ae (((Qs b).drew).alloc lr (T #[] 9));refine g _ _ (fun _=>o _ (fun k l=>AB.block k l)) ?_;clear g K
 (try simp only[Act.put,nzL])
 refine ar (i:=7) rfl (by as_aux_lemma=>kernel_rfl) (fun K g=>?_);go_simp;have n:Hid (Below b.heap.size b (b.alloc (T #[] 9)).drew):=((Qs b).alloc lr _).drew;refine g _ _ (fun _=>o _ (fun k l=>n.block k l)) ?_;clear g K
 (try simp only[Act.put,nzL])
 have s:Hid ((b.alloc (T #[] 9)).drew.ownsRow b.heap.size 9 1 (Y (Q (J b.heap.size 0 Z)) 0 0) 0 []):=own_below (jW b 9 1) br.drew lr;generalize (b.alloc (T #[] 9)).drew=QO at n s ⊢;have QP:=ae (o QO (fun k l=>n.block k l));clear m;have m:=ae QP.out;refine bw 8 (v:=?_) rfl rfl (by as_aux_lemma=>kernel_rfl) (fun _ _ _ h=>h) rfl ?_ m ?_;rotate_left
 ·(intro B j;obtain⟨s0,s1,C⟩:=j;go_simp)
  (try with_reducible rfl)
 (try simp only[Act.put,nzL])
 obtain⟨rl,r0,r1,M,r⟩:=aZ ((n.block _ QQ).trans u);have rf0:=r 0;have rf1:=r 1;have rf2:=r 2;clear r;refine ar (i:=9) rfl (by as_aux_lemma=>kernel_rfl) (fun K g=>?_);go_simp;refine g _ _ (fun h=>absurd rfl h) ?_;clear g K m
 (try simp only[Act.put])
 refine bJ (by as_aux_lemma=>kernel_rfl) ?_ _;go_wp2_with fail;refine bp (v:=QE #[N I f,U d,Y (Q (J b.heap.size 0 Z)) 0 0]) (by simp[results,Tryz.results94,go_sem,r0,r1,M]) rfl ⟨_,rfl,⟨Q (J b.heap.size 0 Z),0,rfl,?_⟩,?_⟩
 ·refine aI (az (az (az s (fun e=>?_) _ _) (fun e=>?_) _ _) (fun e=>?_) _ _) q.size
  all_goals
   have:=(af s _ e).1;omega
 ·exact(((q.trans (n.mono q.size)).setCell (p:=(J (w.heap.size+1) 0 Z)) (AS _) _).setCell (p:=(J (w.heap.size+1) 1 Z)) (AS _) _).setCell (p:=(J (w.heap.size+1) 2 Z)) (AS _) _
theorem zj (w:E)(f:Int)(d:ByteArray)(z:List ByteArray)(g n c B:Nat)(X:n=z.length)(hlen:n<=1000)(QM:w.ownsRow B 9 1 (Y (Q (J g 0 Z)) n c) n (bq z)):Calls Tryz.prog 94 #[QE #[N I f,U d,Y (Q (J g 0 Z)) n c]] w fun e QH=>∃ rv,e=QD rv/\iJ w QH ⟨f,d,z⟩ rv/\Below w.heap.size w QH:=by
 obtain⟨i1,O,QG,bt,QJ⟩:=eZ gL;have HO:=ae QM;have QO:=ae X;clear QM X;have C:=ae (((Qs w).alloc lr (T #[N I f,U d,Y (Q (J g 0 Z)) n c] 41)).alloc (by simp) (T #[N I 0,U ⟨#[]⟩,Y Z 0 0] 41));have H:Hid (((w.alloc (T #[N I f,U d,Y (Q (J g 0 Z)) n c] 41)).alloc (T #[N I 0,U ⟨#[]⟩,Y Z 0 0] 41)).heap[w.heap.size+1]?=Q (T #[N I 0,U ⟨#[]⟩,Y Z 0 0] 41 (0,0))):=by have h2:=eL (w.alloc (T #[N I f,U d,Y (Q (J g 0 Z)) n c] 41)) (T #[N I 0,U ⟨#[]⟩,Y Z 0 0] 41);rw[show(w.alloc (T #[N I f,U d,Y (Q (J g 0 Z)) n c] 41)).heap.size=w.heap.size+1 by simp] at h2;exact h2
 have P:Hid (((w.alloc (T #[N I f,U d,Y (Q (J g 0 Z)) n c] 41)).alloc (T #[N I 0,U ⟨#[]⟩,Y Z 0 0] 41)).heap[w.heap.size]?=Q (T #[N I f,U d,Y (Q (J g 0 Z)) n c] 41 (0,0))):=by have h2:=eL w (T #[N I f,U d,Y (Q (J g 0 Z)) n c] 41);exact(((eI (w.heap.size+1) _).alloc (by simp) _).block w.heap.size (by omega)).trans h2
 go_enter Tryz.func94,Tryz.ntmps94;go_upto_region 1 with fail;generalize (w.alloc (T #[N I f,U d,Y (Q (J g 0 Z)) n c] 41)).alloc (T #[N I 0,U ⟨#[]⟩,Y Z 0 0] 41)=b at C H P ⊢;obtain⟨-,p0,p1,R,-⟩:=aZ P;have W:w.heap.size+1<b.heap.size:=ai H.out;have QQ:Hid (∀ V:E,(∀ k,k<b.heap.size->V.heap[k]?=b.heap[k]?)->V.cell? (J w.heap.size 0 Z)=Q (N I f)/\V.cell? (J w.heap.size 1 Z)=Q (U d)/\V.cell? (J w.heap.size 2 Z)=Q (Y (Q (J g 0 Z)) n c)):=fun V QN=>by have e:=cq (a:=(J w.heap.size 0 Z)) (QN w.heap.size (by omega));have e1:=cq (a:=(J w.heap.size 1 Z)) (QN w.heap.size (by omega));have e2:=cq (a:=(J w.heap.size 2 Z)) (QN w.heap.size (by omega));exact⟨e.trans p0,e1.trans p1,e2.trans R⟩
 have y:=ae (QQ b.drew (fun k x=>rfl));refine bm (fun V=>V.cell? (J w.heap.size 0 Z)=Q (N I f)/\V.cell? (J w.heap.size 1 Z)=Q (U d)/\V.cell? (J w.heap.size 2 Z)=Q (Y (Q (J g 0 Z)) n c)) 9 (by as_aux_lemma=>kernel_rfl) ?_;clear p0 p1 R
 iterate 4
  refine bw 0 (v:=?_) rfl rfl (by as_aux_lemma=>kernel_rfl) (fun _ _ _ h=>h) rfl ?_ y ?_;rotate_left
  ·(intro QL o;obtain⟨s0,s1,QK⟩:=o;go_simp)
   (try with_reducible rfl)
  (try simp only[Act.put,nzL])
 iterate 2
  refine bw 5 (v:=?_) rfl rfl (by as_aux_lemma=>kernel_rfl) (fun _ _ _ h=>h) rfl ?_ y ?_;rotate_left
  ·(intro QL o;obtain⟨s0,s1,QK⟩:=o;go_simp)
   (try with_reducible rfl)
  (try simp only[Act.put,nzL])
 refine ar (i:=4) rfl (by as_aux_lemma=>kernel_rfl) (fun K m=>?_);go_simp;have AB:=ae (((Qs b).drew).alloc lr (T #[] 9));refine m _ _ (fun _=>QQ _ (fun k x=>AB.block k x)) ?_;clear m K
 (try simp only[Act.put,nzL])
 have r:Hid (Below b.heap.size b (b.alloc (T #[] 9)).drew):=((Qs b).alloc lr _).drew;have A:Hid ((b.alloc (T #[] 9)).drew.ownsRow b.heap.size 9 1 (Y (Q (J b.heap.size 0 Z)) 0 0) 0 []):=own_below (jW b 9 1) br.drew lr;have M:Hid ((b.alloc (T #[] 9)).drew.ownsRow B 9 1 (Y (Q (J g 0 Z)) n c) n (bq z)):=own_below (own_below HO C lr) r lr;refine ar (i:=7) rfl (by as_aux_lemma=>kernel_rfl) (fun K m=>?_);refine bA (w:=(b.alloc (T #[] 9)).drew) rfl (.tmp 7) (.tmp 9) 39 rfl b.heap.size 9 i1 (U ⟨#[]⟩) 1 16 Tryz.underlying39 O QG bt QJ rfl (by decide) (Y (Q (J b.heap.size 0 Z)) 0 0) 0 [] (by simp[Act.eval]) A.out (J g 0 Z) n c (bq z) (by simp[Act.eval]) (by rw[bq,IZ,<-QO.out,Nat.mul_one]) (fun q u h=>M.cells (g:=g) rfl q u h) (fun u hu=>by rw[bq,IC] at hu;obtain⟨t,_,rfl⟩:=hu;rfl) (by unfold maxLen;omega) (by omega) r.size ?_;intro v1 S l s L;have QP:Hid (Below b.heap.size b S):=r.trans (bg (eI b.heap.size _) s r.size (fun j e=>(A.lt j e).1));rw[C9,IM] at l;have LO:=ae l;obtain⟨a1,c1,rfl⟩:=ej l;clear l s L r A M AB;refine m _ _ (fun _=>QQ _ (fun k x=>QP.block k x)) ?_;clear m K
 (try simp only[Act.put,nzL])
 have aq:=ae (QQ S (fun k x=>QP.block k x));clear y;have y:=ae aq.out;refine bw 8 (v:=?_) rfl rfl (by as_aux_lemma=>kernel_rfl) (fun _ _ _ h=>h) rfl ?_ y ?_;rotate_left
 ·(intro QL o;obtain⟨s0,s1,QK⟩:=o;go_simp)
  (try with_reducible rfl)
 (try simp only[Act.put,nzL])
 obtain⟨rl,r0,r1,r2,G⟩:=aZ ((QP.block _ W).trans H);have rf0:=G 0;have rf1:=G 1;have rf2:=G 2;clear G;refine ar (i:=9) rfl (by as_aux_lemma=>kernel_rfl) (fun K m=>?_);go_simp;refine m _ _ (fun h=>absurd rfl h) ?_;clear m K y
 (try simp only[Act.put])
 refine bJ (by as_aux_lemma=>kernel_rfl) ?_ _;go_wp2_with fail;refine bp (v:=QE #[N I f,U d,Y a1 n c1]) (by simp[results,Tryz.results94,go_sem,r0,r1,r2]) rfl ⟨_,rfl,⟨a1,c1,by rw[<-QO.out],?_⟩,?_⟩
 ·show World.ownsRow _ _ _ _ _ z.length _
  rw[<-QO.out];refine aI (az (az (az LO (fun e=>?_) _ _) (fun e=>?_) _ _) (fun e=>?_) _ _) C.size;all_goals
   have:=(af LO _ e).1;omega
 ·exact(((C.trans (QP.mono C.size)).setCell (p:=(J (w.heap.size+1) 0 Z)) (AS _) _).setCell (p:=(J (w.heap.size+1) 1 Z)) (AS _) _).setCell (p:=(J (w.heap.size+1) 2 Z)) (AS _) _
theorem xD (w:E)(r:ResL)(a:Option Addr)(c B:Nat)(d:w.ownsRow B 9 1 (Y a r.chain.length c) r.chain.length (bq r.chain))(b:r.chain.length<=1000):Calls Tryz.prog 94 #[QE #[N I r.code,U r.text,Y a r.chain.length c]] w fun e j=>∃ n,e=QD n/\iJ w j r n/\Below w.heap.size w j:=by
 obtain⟨l,k,f⟩:=r;simp only at d b ⊢;obtain⟨h0,⟨h,o⟩ | ⟨g,cap,cur,h,h2⟩⟩:=id d
 ·have i:f=[]:=List.length_eq_zero_iff.1 o
  subst i;cases h
  exact BP w l k
 ·have m:=h
  simp only[CN] at m;obtain⟨rfl,-,rfl⟩:=m;exact zj w l k f g f.length c B rfl b d
theorem xE {S:Spc}{lies:List Ent->ByteArray->Out Ent}{t K:Nat}(j:∀ b nm c,lies b nm=.inr (.inl c)->c.length<=K):∀ k b f d c,bO S lies t k b f d=.inr (.inl c)->c.length<=K:=by
 intro k;induction k with
 | zero=>intro b f d c h;cases h
 | succ k g =>
  intro b f d c h;rw[bO] at h;split at h
  ·cases h
  ·split at h
   ·exact g _ _ _ _ h
   ·split at h
    ·exact g _ _ _ _ h
    ·rename_i c' i
     cases h
     exact j _ _ _ i
    ·cases h
theorem mV (S:Spc):∀ n b f nm c,aL S n b f nm=.inr (.inl c)->c.length<=b.length+n:=by
 intro n;have g:∀ b f nm c (K:Nat) (tgt:Nat->Out Ent),b.length<=K->(∀ t c,tgt t=.inr (.inl c)->c.length<=K)->dm S tgt b f nm=.inr (.inl c)->c.length<=K:=by
  intro b f nm c K tgt hK j h;unfold dm at h;split at h
  ·cases h
  ·split at h
   ·cases h
    rw[IH];omega
   ·unfold d9 dP at h
    split at h
    ·cases h
    ·split at h
     ·exact j _ _ h
     ·cases h
 induction n with
 | zero =>intro b f nm c h;rw[aL] at h;exact g _ _ _ _ _ _ (by omega) (fun t c h=>by cases h) h
 | succ n i =>
  intro b f nm c h;rw[aL] at h;refine g _ _ _ _ _ _ (by omega) (fun t c h=>?_) h;rcases hr:bO S (aL S n (b++[nm])) t 201 f [] [] with ⟨made1,x⟩ | c1 | d
  ·rw[hr] at h;cases h
  ·rw[hr] at h
   cases h
   refine xE (fun f nm2 c2 h2=>?_) _ _ _ _ _ hr;have:=i _ _ _ _ h2;rw[cM,p7] at this;omega
  ·rw[hr] at h;cases h
section
variable {S:Spc}{a0 a1:Option Addr}{c0 c1:Nat}
theorem re (w:E)(nm:ByteArray)(o:SlSource w a0 S.n0 S.f0)(n:SlTarget w a1 S.n1 S.f1)(hn0:S.n0<=1048576)(hn1:S.n1<=1048576)(m:∀ i,i<S.n1->aS (S.f1 i))(z:∀ i,i<S.n1->∀ j,j<(S.f1 i).actN->((S.f1 i).act j).s.size<=maxLen)(g:¬ (aU S.n0 S.f0 S.n1 S.f1=0/\au nm=QC)):Calls Tryz.prog 23 #[QE #[Y a0 S.n0 c0,Y a1 S.n1 c1],U nm] w fun e QQ=>∃ K,e=QD K/\iJ w QQ ⟨9,⟨#[]⟩,[]⟩ K/\Below w.heap.size w QQ:=by
 have f:=ae (((Qs w).alloc lr (T #[Y a0 S.n0 c0,Y a1 S.n1 c1] 26)).alloc (by simp) (T #[N I 0,U ⟨#[]⟩,Y Z 0 0] 41));have k:=ae (fL a0 S.n0 c0 S.f0 a1 S.n1 c1 S.f1 ((w.alloc (T #[Y a0 S.n0 c0,Y a1 S.n1 c1] 26)).alloc (T #[N I 0,U ⟨#[]⟩,Y Z 0 0] 41)) (by omega) (by omega) (o.below f lr) (n.below f lr) m z);have l:Hid (((w.alloc (T #[Y a0 S.n0 c0,Y a1 S.n1 c1] 26)).alloc (T #[N I 0,U ⟨#[]⟩,Y Z 0 0] 41)).heap[w.heap.size+1]?=Q (T #[N I 0,U ⟨#[]⟩,Y Z 0 0] 41 (0,0))):=by have h2:=eL (w.alloc (T #[Y a0 S.n0 c0,Y a1 S.n1 c1] 26)) (T #[N I 0,U ⟨#[]⟩,Y Z 0 0] 41);rw[show(w.alloc (T #[Y a0 S.n0 c0,Y a1 S.n1 c1] 26)).heap.size=w.heap.size+1 by simp] at h2;exact h2
 obtain⟨t,r⟩:∃ t,t=aU S.n0 S.f0 S.n1 S.f1:=⟨_,rfl⟩
 rw[<-r] at k g;have B:=ae g;clear o n m z r g hn0 hn1;by_cases G:t=0
 ·have A:Hid (au nm=D):=by
   cases h:au nm with
   | false=>rfl
   | true=>exact absurd ⟨G,h⟩ B
  subst G;go_enter Tryz.func23,Tryz.ntmps23;go_wp2_with fail;generalize (w.alloc (T #[Y a0 S.n0 c0,Y a1 S.n1 c1] 26)).alloc (T #[N I 0,U ⟨#[]⟩,Y Z 0 0] 41)=L at f k l ⊢;refine k.mono ?_;clear k;rintro e QP ⟨rfl,b⟩;have QO:=ae (f.trans (b.mono f.size));have q:=ae ((b.block _ (ai l)).trans l);clear b;go_wp2_with fail;refine(cX nm QP).mono ?_;rintro e w2 ⟨H,b⟩;rw[A.out] at H;subst H;have x:=ae (QO.trans (b.mono QO.size));obtain⟨rl,r0,r1,u,d⟩:=aZ ((b.block _ (ai q)).trans q);have QN:=d 0;have C:=d 1;have y:=d 2;clear d b;go_wp2_with fail;refine bp (v:=QE #[N I 9,U ⟨#[]⟩,Y Z 0 0]) (by simp[results,Tryz.results23,go_sem,r0,r1,u]) rfl ⟨_,rfl,ik _ _ _ _,?_⟩;exact((x.setCell (p:=(J (w.heap.size+1) 0 Z)) (AS _) _).setCell (p:=(J (w.heap.size+1) 1 Z)) (AS _) _).setCell (p:=(J (w.heap.size+1) 2 Z)) (AS _) _
 ·go_enter Tryz.func23,Tryz.ntmps23
  go_wp2_with fail;generalize (w.alloc (T #[Y a0 S.n0 c0,Y a1 S.n1 c1] 26)).alloc (T #[N I 0,U ⟨#[]⟩,Y Z 0 0] 41)=L at f k l ⊢;refine k.mono ?_;clear k;rintro e QP ⟨rfl,b⟩;have x:=ae (f.trans (b.mono f.size));obtain⟨rl,r0,r1,u,d⟩:=aZ ((b.block _ (ai l)).trans l);have QN:=d 0;have C:=d 1;have y:=d 2;clear d b;go_wp2_with fail;refine bp (v:=QE #[N I 9,U ⟨#[]⟩,Y Z 0 0]) (by simp[results,Tryz.results23,go_sem,r0,r1,u]) rfl ⟨_,rfl,ik _ _ _ _,?_⟩;exact((x.setCell (p:=(J (w.heap.size+1) 0 Z)) (AS _) _).setCell (p:=(J (w.heap.size+1) 1 Z)) (AS _) _).setCell (p:=(J (w.heap.size+1) 2 Z)) (AS _) _
end
theorem xF {S:Spc}{l j:E}{hb:Nat}{s0 s1:QB}{nm:ByteArray}(h1:aU S.n0 S.f0 S.n1 S.f1=0)(h2:au nm=QC)(h:vB l hb s0 s1 j (aL S 60 [] [] nm)):∃ u0 u1 g f st a k d,ShBox j hb u0 u1 g f st (bj S nm).2.code (bj S nm).2.text (Y a (bj S nm).2.chain.length k) d/\j.ownsRow l.heap.size 9 1 (Y a (bj S nm).2.chain.length k) (bj S nm).2.chain.length (bq (bj S nm).2.chain)/\(bj S nm).2.chain.length<=1000:=by
 unfold bj;rw[eT ⟨h1,h2⟩];rcases hl:aL S 60 [] [] nm with ⟨made',x⟩ | c | d
 ·rw[hl] at h
  obtain⟨L,g,f,st,b,-⟩:=h;have m:(cR x).chain=[]:=by unfold cR;split<;>rfl
  dsimp only;rw[m];refine⟨s0,s1,g,f,st,Z,0,D,?_,?_,?_⟩
  ·exact b
  ·exact⟨rfl,.inl ⟨rfl,rfl⟩⟩
  ·exact CP _
 ·rw[hl] at h
  obtain⟨a,k,u0,u1,g,f,st,b,i⟩:=h;have:=mV S 60 [] [] nm c hl;exact⟨u0,u1,g,f,st,a,k,QC,b,i,j5 this (by simp)⟩
 ·rw[hl] at h
  obtain⟨u0,u1,g,f,st,b,i⟩:=h;exact⟨u0,u1,g,f,st,Z,0,QC,b,i,CP _⟩
section
variable {S:Spc}{a0 a1:Option Addr}{c0 c1:Nat}
theorem tD (w:E)(nm:ByteArray)(n:SlSource w a0 S.n0 S.f0)(g:SlTarget w a1 S.n1 S.f1)(hn0:S.n0<=1048576)(hn1:S.n1<=1048576)(l:∀ i,i<S.n1->aS (S.f1 i))(QM:∀ i,i<S.n1->∀ j,j<(S.f1 i).actN->((S.f1 i).act j).s.size<=maxLen)(h1:aU S.n0 S.f0 S.n1 S.f1=0)(h2:au nm=QC):Calls Tryz.prog 23 #[QE #[Y a0 S.n0 c0,Y a1 S.n1 c1],U nm] w fun e O=>∃ QP,e=QD QP/\iJ w O (bj S nm).2 QP/\Below w.heap.size w O:=by
 have m:=ae (((Qs w).alloc lr (T #[Y a0 S.n0 c0,Y a1 S.n1 c1] 26)).alloc (by simp) (T #[N I 0,U ⟨#[]⟩,Y Z 0 0] 41));have q:=ae (fL a0 S.n0 c0 S.f0 a1 S.n1 c1 S.f1 ((w.alloc (T #[Y a0 S.n0 c0,Y a1 S.n1 c1] 26)).alloc (T #[N I 0,U ⟨#[]⟩,Y Z 0 0] 41)) (by omega) (by omega) (n.below m lr) (g.below m lr) l QM);have K:Hid (((w.alloc (T #[Y a0 S.n0 c0,Y a1 S.n1 c1] 26)).alloc (T #[N I 0,U ⟨#[]⟩,Y Z 0 0] 41)).heap[w.heap.size+1]?=Q (T #[N I 0,U ⟨#[]⟩,Y Z 0 0] 41 (0,0))):=by have h2:=eL (w.alloc (T #[Y a0 S.n0 c0,Y a1 S.n1 c1] 26)) (T #[N I 0,U ⟨#[]⟩,Y Z 0 0] 41);rw[show(w.alloc (T #[Y a0 S.n0 c0,Y a1 S.n1 c1] 26)).heap.size=w.heap.size+1 by simp] at h2;exact h2
 have L:Hid (((w.alloc (T #[Y a0 S.n0 c0,Y a1 S.n1 c1] 26)).alloc (T #[N I 0,U ⟨#[]⟩,Y Z 0 0] 41)).heap[w.heap.size]?=Q (T #[Y a0 S.n0 c0,Y a1 S.n1 c1] 26 (0,0))):=by have h2:=eL w (T #[Y a0 S.n0 c0,Y a1 S.n1 c1] 26);exact(((eI (w.heap.size+1) _).alloc (by simp) _).block w.heap.size (by omega)).trans h2
 have QG:=ae n;have V1:=ae g;have R:=ae (SpcOk.of h1);have H1:=ae h1;have M:=ae h2;rw[h1] at q;obtain⟨r,QO⟩:∃ r,r=(bj S nm).2:=⟨_,rfl⟩
 have HR:=ae QO;rw[<-QO];clear n g l QM hn0 hn1 h1 h2 QO;go_enter Tryz.func23,Tryz.ntmps23;go_wp2_with fail;generalize (w.alloc (T #[Y a0 S.n0 c0,Y a1 S.n1 c1] 26)).alloc (T #[N I 0,U ⟨#[]⟩,Y Z 0 0] 41)=W0 at m q K L ⊢;refine q.mono ?_;clear q;rintro e w1 ⟨rfl,b⟩;have V:=ae (m.trans (b.mono m.size));have y:=ae ((b.block _ (ai K)).trans K);have QQ:=ae ((b.block _ (ai L)).trans L);clear b;go_wp2_with fail;refine(cX nm w1).mono ?_;rintro e u ⟨QJ,b⟩;rw[M.out] at QJ;subst QJ;have x:=ae (V.trans (b.mono V.size));have C:=ae ((b.block _ (ai y)).trans y);have h:=ae ((b.block _ (ai QQ)).trans QQ);have hsl:w.heap.size<u.heap.size:=ai h.out;have q0:u.cell? (J w.heap.size 0 Z)=Q (Y a0 S.n0 c0):=by simp[World.cell?,h.out]
 have QH:u.cell? (J w.heap.size 1 Z)=Q (Y a1 S.n1 c1):=by simp[World.cell?,h.out]
 clear b;go_wp2_with fail;refine(ux u ⟨QG.below x lr,V1.below x lr,R⟩ nm M).mono ?_;rintro e QN ⟨hb,rfl,z,b⟩;obtain⟨u0,u1,md,or,st,a,k,d,A,H,f⟩:=xF H1 M z;rw[<-HR.out] at A H f;have G:=ae (x.trans (b.mono x.size));have o:=ae ((b.block _ (ai C)).trans C);have QL:=ae (xD QN r a k _ H f);clear q0 QH b z H f;obtain⟨hbl,-,-,-,-,-,b5,X,b7,-,-⟩:=A.facts;have W:w.heap.size<=QN.heap.size:=G.size;go_wp2_with fail;refine QL.mono ?_;rintro e w4 ⟨QP,rfl,⟨QK,c4,rfl,B⟩,b⟩;have B4:=ae (G.trans (b.mono G.size));have P:=ae B;obtain⟨rl,r0,r1,r2,t⟩:=aZ ((b.block _ (ai o)).trans o);have rf0:=t 0;have rf1:=t 1;have rf2:=t 2;have hz3:w.heap.size+1<QN.heap.size:=ai o.out;clear t b B b5 X b7;go_wp2_with fail;refine bp (v:=QE #[N I r.code,U r.text,Y QK r.chain.length c4]) (by simp[results,Tryz.results23,go_sem,r0,r1,r2]) rfl ⟨_,rfl,⟨QK,c4,rfl,?_⟩,?_⟩
 ·refine aI (az (az (az P (fun e=>?_) _ _) (fun e=>?_) _ _) (fun e=>?_) _ _) W
  all_goals
   have:=(af P _ e).1;omega
 ·exact((B4.setCell (p:=(J (w.heap.size+1) 0 Z)) (AS _) _).setCell (p:=(J (w.heap.size+1) 1 Z)) (AS _) _).setCell (p:=(J (w.heap.size+1) 2 Z)) (AS _) _
theorem rh (w:E)(nm:ByteArray)(f:SlSource w a0 S.n0 S.f0)(d:SlTarget w a1 S.n1 S.f1)(hn0:S.n0<=1048576)(hn1:S.n1<=1048576)(b:∀ i,i<S.n1->aS (S.f1 i))(g:∀ i,i<S.n1->∀ j,j<(S.f1 i).actN->((S.f1 i).act j).s.size<=maxLen):Calls Tryz.prog 23 #[QE #[Y a0 S.n0 c0,Y a1 S.n1 c1],U nm] w fun e l=>∃ k,e=QD k/\iJ w l (bj S nm).2 k/\Below w.heap.size w l:=by
 by_cases h:aU S.n0 S.f0 S.n1 S.f1=0/\au nm=QC
 ·exact tD w nm f d hn0 hn1 b g h.1 h.2
 ·have e:(bj S nm).2=⟨9,⟨#[]⟩,[]⟩:=by unfold bj;rw[a8 h]
  rw[e];exact re w nm f d hn0 hn1 b g h
end
end Go.Proofs.YtkdimgejdocbbaaGreatDoor.Vp
namespace Go.Proofs.YtkdimgejdocbbaaGreatDoor.Vp
open RowKit
theorem uy (S:Spc)(nm:ByteArray):(bj S nm).2.chain.length<=60:=by
 unfold bj;split
 ·have h:=mV S 60 [] [] nm
  split
  ·unfold cR
   split<;>simp
  ·rename_i c e
   have:=h c e;simpa using this
  ·simp
 ·simp
end Go.Proofs.YtkdimgejdocbbaaGreatDoor.Vp
