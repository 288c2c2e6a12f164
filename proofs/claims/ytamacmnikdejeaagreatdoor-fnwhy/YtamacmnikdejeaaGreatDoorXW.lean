import Derived.Test.YtamacmnikdejeaaGreatDoorXQ
import Derived.Deep.RegionHeld3
import Derived.Defers
import Derived.Recover
set_option maxRecDepth 100000
set_option maxHeartbeats 4000000
open Go.Addr renaming mk->T
open Go.Value renaming slice->Y,string->U,int->I,bool->QT,agg->QV
open Option renaming none->Z,some->N
open Go.Obj renaming cells->Q
open Go.IntKind renaming i64->J
open Go renaming World->H,Value->QS
open Bool renaming false->QQ
open Go.Ending renaming returned->QU
namespace Go.Proofs.YtamacmnikdejeaaGreatDoor.Vp
open RowKit Go.Maps
end Go.Proofs.YtamacmnikdejeaaGreatDoor.Vp
namespace Go.Proofs.YtamacmnikdejeaaGreatDoor.Vp
open RowKit Go.Maps Ca
def pZ (w b:H)(r:jH)(v:QS):Prop:=∃ a c,v=QV #[I J r.code,U r.text,Y a r.chain.length c]/\b.ownsRow w.heap.size 9 1 (Y a r.chain.length c) r.chain.length (cu r.chain)
theorem rR (w b:H)(c:Int)(t:ByteArray):pZ w b ⟨c,t,[]⟩ (QV #[I J c,U t,Y Z 0 0]):=⟨Z,0,rfl,⟨rfl,.inl ⟨rfl,rfl⟩⟩⟩
def BSt (w W:H)(u v:QS):Prop:=Below w.heap.size w W/\W.heap[w.heap.size]?=N (Q #[u,v] 29 (0,0))/\W.heap[w.heap.size+1]?=N (Q #[Y Z 0 0] 131 (0,0))/\W.heap[w.heap.size+1+1]?=N (Q #[I J 0,U ⟨#[]⟩,Y Z 0 0] 37 (0,0))
section
variable {w W W':H}{u v:QS}
end
section
variable {S:Spc}{a0 a1:Option Addr}{c0 c1:Nat}
theorem DJ (S:Spc):eo S [] []<=S.n1:=by have:=NK (p:=jk S [] []) (l:=List.range S.n1);rw[List.length_range] at this;exact this
end
end Go.Proofs.YtamacmnikdejeaaGreatDoor.Vp
namespace Go.Proofs.YtamacmnikdejeaaGreatDoor.Vp
open RowKit
section
variable {S:Spc}{a0 a1:Option Addr}{c0 c1:Nat}
end
end Go.Proofs.YtamacmnikdejeaaGreatDoor.Vp
namespace Go.Proofs.YtamacmnikdejeaaGreatDoor.Vp
open RowKit Ca
def Fl (f:H)(hb:Nat)(j i:QS)(b:H):Out Ent->Prop
 | .inl (made',x)=>∃ L g h st,ShBox b hb j i g h st (dK x).code (dK x).text (Y Z 0 0) QQ/\b.ownsRow f.heap.size 161 6 g L.length (L.flatMap smV)/\b.ownsRow f.heap.size 9 1 h made'.length (cu (made'.map (·.name)))/\(∀ m∈L,m.done=true->b.ownsRow f.heap.size 164 3 m.sv m.seen.length (eB m.seen))/\fA L [] made'
 | .inr (.inl c)=>∃ a k,iV f hb b (jn c) (Y a c.length k)
 | .inr (.inr d)=>iV f hb b (jo d) (Y Z 0 0)
section
variable {S:Spc}{a0 a1:Option Addr}{c0 c1:Nat}
theorem vN (w:H)(C:lZ w S a0 a1)(nm:ByteArray)(hn:av nm=true):Calls Tryz.prog 45 #[QV #[Y a0 S.n0 c0,Y a1 S.n1 c1],U nm] w fun e M=>∃ hb,e=QU (.pointer (N (T hb 0 Z)))/\Fl w hb (Y a0 S.n0 c0) (Y a1 S.n1 c1) M (aX S 60 [] [] nm)/\Below w.heap.size w M:=by
 obtain⟨R,hR⟩:∃ R,R=aX S 60 [] [] nm:=⟨_,rfl⟩
 have HM:Hid (∀ (W:H) (hb:Nat),SI w hb (Y a0 S.n0 c0) (Y a1 S.n1 c1) W [] [] [] (Y Z 0 0) (Y Z 0 0) (Y Z 0 0)->Calls Tryz.prog 91 #[.pointer (N (T hb 0 Z)),U nm] W fun e M=>jN w hb (Y a0 S.n0 c0) (Y a1 S.n1 c1) [] [] W e M R):=by intro W hb Q9;rw[hR];refine Dz C 60 [] [] [] _ _ _ W nm rfl Q9 ⟨List.Pairwise.nil,rfl,fun x t=>absurd t nj,fun x t=>absurd t nj,fun x t=>absurd t nj⟩ (iP S []) ?_ (fun x t=>absurd t nj) hn;have h1:=DJ S;have h2:=C.ok.small;unfold fc;simp only[IS];omega
 rw[<-hR];have zA:(w.alloc (Q #[Y a0 S.n0 c0,Y a1 S.n1 c1] 29)).heap.size=w.heap.size+1:=by simp
 have G:=ae (((q9 w).alloc ly (Q #[Y a0 S.n0 c0,Y a1 S.n1 c1] 29)).alloc (by simp) (Q #[Y a0 S.n0 c0,Y a1 S.n1 c1,Y Z 0 0,Y Z 0 0,Y Z 0 0,I J 0,U ⟨#[]⟩,Y Z 0 0,QT QQ] 89));have Q2:Hid (SI w (w.heap.size+1) (Y a0 S.n0 c0) (Y a1 S.n1 c1) ((w.alloc (Q #[Y a0 S.n0 c0,Y a1 S.n1 c1] 29)).alloc (Q #[Y a0 S.n0 c0,Y a1 S.n1 c1,Y Z 0 0,Y Z 0 0,Y Z 0 0,I J 0,U ⟨#[]⟩,Y Z 0 0,QT QQ] 89)) [] [] [] (Y Z 0 0) (Y Z 0 0) (Y Z 0 0)):=by refine⟨G,vF _,?_,⟨rfl,.inl ⟨rfl,rfl⟩⟩,⟨rfl,.inl ⟨rfl,rfl⟩⟩,⟨rfl,.inl ⟨rfl,rfl⟩⟩,(fun k h=>by cases h),fun m Q0=>absurd Q0 nj⟩;have h2:=cM (w.alloc (Q #[Y a0 S.n0 c0,Y a1 S.n1 c1] 29)) (Q #[Y a0 S.n0 c0,Y a1 S.n1 c1,Y Z 0 0,Y Z 0 0,Y Z 0 0,I J 0,U ⟨#[]⟩,Y Z 0 0,QT QQ] 89);rw[zA] at h2;exact h2
 clear hn C hR zA;go_enter Tryz.func45,Tryz.ntmps45;go_wp2_with fail;generalize (w.alloc (Q #[Y a0 S.n0 c0,Y a1 S.n1 c1] 29)).alloc (Q #[Y a0 S.n0 c0,Y a1 S.n1 c1,Y Z 0 0,Y Z 0 0,Y Z 0 0,I J 0,U ⟨#[]⟩,Y Z 0 0,QT QQ] 89)=W0 at G Q2 ⊢;obtain⟨hb,P⟩:∃ hb,hb=w.heap.size+1:=⟨_,rfl⟩
 rw[<-P] at Q2 ⊢;have F:w.heap.size<=hb:=by omega
 clear P;refine(HM W0 hb Q2).mono ?_;clear HM;rintro e o l;rcases R with ⟨made',x⟩ | c | d
 ·obtain⟨L,md,or,st,rfl,Q9,hrel,-,f⟩:=l
  have q:=ae (G.trans f.below);have V:=ae hrel;obtain⟨B,E⟩:∃ B,B=(dK x).code:=⟨_,rfl⟩
  obtain⟨z,D⟩:∃ z,z=(dK x).text:=⟨_,rfl⟩
  have bt:=ae E;have aq:=ae D;rw[<-E,<-D];have i:=ae ((q9 o).alloc ly (Q #[I J B,U z,Y Z 0 0] 37));have A:=ae (Q9.below i ly);clear f hrel Q9 E D;obtain⟨O,-,-,-,-,-,b5,b6,b7,b8,K⟩:=A.box.facts;have bf5:=K 5;have bf6:=K 6;have bf7:=K 7;clear K;go_wp2_with fail;go_ret;have y:∀ {size n:Nat} {QZ:TypeId} {u:QS} {QY:List QS},(o.alloc (Q #[I J B,U z,Y Z 0 0] 37)).ownsRow w.heap.size QZ size u n QY->89≠QZ->((((o.alloc (Q #[I J B,U z,Y Z 0 0] 37)).setCell (T hb 5 Z) (I J B)).setCell (T hb 6 Z) (U z)).setCell (T hb 7 Z) (Y Z 0 0)).ownsRow w.heap.size QZ size u n QY:=fun hr ht=>by
   rename_i size n QZ u QY;have ZA:u.ownBlock≠N hb:=fun e=>by obtain⟨_,_,cs2,fd⟩:=ar hr hb e;exact absurd (au A.box fd) ht
   exact aA (aA (aA hr ZA _ _) ZA _ _) ZA _ _
  refine⟨hb,rfl,⟨L,md,or,st,?_,y A.rmd (by decide),y A.ror (by decide),fun m Q0 hd=>y (A.seen m Q0 hd) (by decide),V⟩,?_⟩
  ·rw[<-bt.out,<-aq.out]
   exact aB (aB (aB A.box (j:=5) _) (j:=6) _) (j:=7) _
  ·exact(((q.trans (i.mono q.size)).setCell (p:=(T hb 5 Z)) F _).setCell (p:=(T hb 6 Z)) F _).setCell (p:=(T hb 7 Z)) F _
 ·obtain⟨a,k,rfl,⟨s0,s1,QW,QX,X,g,b⟩,f⟩:=l
  have r:=ae g;have ZB:=ae b;have q:=ae (G.trans f.below);clear g b f;unfold iB jn;dsimp only;have i:=ae ((q9 o).alloc ly (Q #[I J 6,U ⟨#[]⟩,Y a c.length k] 37));have s:=ae (ShBox.blk r (i.block _ (ah r)));obtain⟨O,-,-,-,-,-,-,-,-,b8,-⟩:=s.facts;go_wp2_with fail;go_ret;exact⟨hb,rfl,⟨a,k,_,_,_,_,_,s,own_below ZB i ly⟩,q.trans (i.mono q.size)⟩
 ·obtain⟨rfl,⟨s0,s1,QW,QX,X,g,b⟩,f⟩:=l
  have r:=ae g;have ZB:=ae b;have q:=ae (G.trans f.below);clear g b f;unfold iB jo;dsimp only;have i:=ae ((q9 o).alloc ly (Q #[I J 7,U d,Y Z 0 0] 37));have s:=ae (ShBox.blk r (i.block _ (ah r)));obtain⟨O,-,-,-,-,-,-,-,-,b8,-⟩:=s.facts;go_wp2_with fail;go_ret;exact⟨hb,rfl,⟨_,_,_,_,_,s,own_below ZB i ly⟩,q.trans (i.mono q.size)⟩
end
theorem DK (w:H)(f:Int)(c:ByteArray):Calls Tryz.prog 46 #[QV #[I J f,U c,Y Z 0 0]] w fun e ZA=>∃ x,e=QU x/\pZ w ZA ⟨f,c,[]⟩ x/\Below w.heap.size w ZA:=by
 have r:=ae (((q9 w).alloc ly (Q #[I J f,U c,Y Z 0 0] 37)).alloc (by simp) (Q #[I J 0,U ⟨#[]⟩,Y Z 0 0] 37));have t:Hid (((w.alloc (Q #[I J f,U c,Y Z 0 0] 37)).alloc (Q #[I J 0,U ⟨#[]⟩,Y Z 0 0] 37)).heap[w.heap.size+1]?=N (Q #[I J 0,U ⟨#[]⟩,Y Z 0 0] 37 (0,0))):=by have h2:=cM (w.alloc (Q #[I J f,U c,Y Z 0 0] 37)) (Q #[I J 0,U ⟨#[]⟩,Y Z 0 0] 37);rw[show(w.alloc (Q #[I J f,U c,Y Z 0 0] 37)).heap.size=w.heap.size+1 by simp] at h2;exact h2
 have z:Hid (((w.alloc (Q #[I J f,U c,Y Z 0 0] 37)).alloc (Q #[I J 0,U ⟨#[]⟩,Y Z 0 0] 37)).heap[w.heap.size]?=N (Q #[I J f,U c,Y Z 0 0] 37 (0,0))):=by have h2:=cM w (Q #[I J f,U c,Y Z 0 0] 37);exact(((eL (w.heap.size+1) _).alloc (by simp) _).block w.heap.size (by omega)).trans h2
 go_enter Tryz.func46,Tryz.ntmps46;go_upto_region 1 with fail;generalize (w.alloc (Q #[I J f,U c,Y Z 0 0] 37)).alloc (Q #[I J 0,U ⟨#[]⟩,Y Z 0 0] 37)=b at r t z ⊢;obtain⟨-,G,C,B,-⟩:=aU z;have F:w.heap.size+1<b.heap.size:=ah t.out;have q:Hid (∀ V:H,(∀ k,k<b.heap.size->V.heap[k]?=b.heap[k]?)->V.cell? (T w.heap.size 0 Z)=N (I J f)/\V.cell? (T w.heap.size 1 Z)=N (U c)/\V.cell? (T w.heap.size 2 Z)=N (Y Z 0 0)):=fun V s=>by have e:=cj (a:=(T w.heap.size 0 Z)) (s w.heap.size (by omega));have M:=cj (a:=(T w.heap.size 1 Z)) (s w.heap.size (by omega));have L:=cj (a:=(T w.heap.size 2 Z)) (s w.heap.size (by omega));exact⟨e.trans G,M.trans C,L.trans B⟩
 have m:=ae (q b.drew (fun k l=>rfl));refine aH (fun V=>V.cell? (T w.heap.size 0 Z)=N (I J f)/\V.cell? (T w.heap.size 1 Z)=N (U c)/\V.cell? (T w.heap.size 2 Z)=N (Y Z 0 0)) 9 (by as_aux_lemma=>kernel_rfl) ?_;clear G C B
 iterate 4
  refine aO 0 (v:=?_) rfl rfl (by as_aux_lemma=>kernel_rfl) (fun _ _ _ h=>h) rfl ?_ m ?_;rotate_left
  ·(intro E j;obtain⟨y,A,D⟩:=j;go_simp)
   (try with_reducible rfl)
  (try simp only[Act.put,nzL])
 iterate 2
  refine aO 5 (v:=?_) rfl rfl (by as_aux_lemma=>kernel_rfl) (fun _ _ _ h=>h) rfl ?_ m ?_;rotate_left
  ·(intro E j;obtain⟨y,A,D⟩:=j;go_simp)
   (try with_reducible rfl)
  (try simp only[Act.put,nzL])
 refine af (i:=4) rfl (by as_aux_lemma=>kernel_rfl) (fun K g=>?_);go_simp;have AB:=ae (((q9 b).drew).alloc ly (Q #[] 9));refine g _ _ (fun _=>q _ (fun k l=>AB.block k l)) ?_;clear g K
 (try simp only[Act.put,nzL])
 refine af (i:=7) rfl (by as_aux_lemma=>kernel_rfl) (fun K g=>?_);go_simp;have n:Hid (Below b.heap.size b (b.alloc (Q #[] 9)).drew):=((q9 b).alloc ly _).drew;refine g _ _ (fun _=>q _ (fun k l=>n.block k l)) ?_;clear g K
 (try simp only[Act.put,nzL])
 have u:Hid ((b.alloc (Q #[] 9)).drew.ownsRow b.heap.size 9 1 (Y (N (T b.heap.size 0 Z)) 0 0) 0 []):=own_below (kZ b 9 1) br.drew ly;generalize (b.alloc (Q #[] 9)).drew=QZ at n u ⊢;have ZB:=ae (q QZ (fun k l=>n.block k l));clear m;have m:=ae ZB.out;refine aO 8 (v:=?_) rfl rfl (by as_aux_lemma=>kernel_rfl) (fun _ _ _ h=>h) rfl ?_ m ?_;rotate_left
 ·(intro E j;obtain⟨y,A,D⟩:=j;go_simp)
  (try with_reducible rfl)
 (try simp only[Act.put,nzL])
 obtain⟨rl,r0,r1,Q9,o⟩:=aU ((n.block _ F).trans t);have rf0:=o 0;have rf1:=o 1;have rf2:=o 2;clear o;refine af (i:=9) rfl (by as_aux_lemma=>kernel_rfl) (fun K g=>?_);go_simp;refine g _ _ (fun h=>absurd rfl h) ?_;clear g K m
 (try simp only[Act.put])
 refine aN (by as_aux_lemma=>kernel_rfl) ?_ _;go_wp2_with fail;refine bp (v:=QV #[I J f,U c,Y (N (T b.heap.size 0 Z)) 0 0]) (by simp[results,Tryz.results46,go_sem,r0,r1,Q9]) rfl ⟨_,rfl,⟨N (T b.heap.size 0 Z),0,rfl,?_⟩,?_⟩
 ·refine aE (aA (aA (aA u (fun e=>?_) _ _) (fun e=>?_) _ _) (fun e=>?_) _ _) r.size
  all_goals
   have:=(ar u _ e).1;omega
 ·exact(((r.trans (n.mono r.size)).setCell (p:=(T (w.heap.size+1) 0 Z)) (vF _) _).setCell (p:=(T (w.heap.size+1) 1 Z)) (vF _) _).setCell (p:=(T (w.heap.size+1) 2 Z)) (vF _) _
theorem AH (w:H)(l:Int)(f:ByteArray)(y:List ByteArray)(g n c B:Nat)(hn:n=y.length)(hlen:n<=1000)(Q0:w.ownsRow B 9 1 (Y (N (T g 0 Z)) n c) n (cu y)):Calls Tryz.prog 46 #[QV #[I J l,U f,Y (N (T g 0 Z)) n c]] w fun e S=>∃ L,e=QU L/\pZ w S ⟨l,f,y⟩ L/\Below w.heap.size w S:=by
 obtain⟨i1,aq,QW,bt,X⟩:=fw iC;have HO:=ae Q0;have ZB:=ae hn;clear Q0 hn;have D:=ae (((q9 w).alloc ly (Q #[I J l,U f,Y (N (T g 0 Z)) n c] 37)).alloc (by simp) (Q #[I J 0,U ⟨#[]⟩,Y Z 0 0] 37));have Q9:Hid (((w.alloc (Q #[I J l,U f,Y (N (T g 0 Z)) n c] 37)).alloc (Q #[I J 0,U ⟨#[]⟩,Y Z 0 0] 37)).heap[w.heap.size+1]?=N (Q #[I J 0,U ⟨#[]⟩,Y Z 0 0] 37 (0,0))):=by have h2:=cM (w.alloc (Q #[I J l,U f,Y (N (T g 0 Z)) n c] 37)) (Q #[I J 0,U ⟨#[]⟩,Y Z 0 0] 37);rw[show(w.alloc (Q #[I J l,U f,Y (N (T g 0 Z)) n c] 37)).heap.size=w.heap.size+1 by simp] at h2;exact h2
 have QY:Hid (((w.alloc (Q #[I J l,U f,Y (N (T g 0 Z)) n c] 37)).alloc (Q #[I J 0,U ⟨#[]⟩,Y Z 0 0] 37)).heap[w.heap.size]?=N (Q #[I J l,U f,Y (N (T g 0 Z)) n c] 37 (0,0))):=by have h2:=cM w (Q #[I J l,U f,Y (N (T g 0 Z)) n c] 37);exact(((eL (w.heap.size+1) _).alloc (by simp) _).block w.heap.size (by omega)).trans h2
 go_enter Tryz.func46,Tryz.ntmps46;go_upto_region 1 with fail;generalize (w.alloc (Q #[I J l,U f,Y (N (T g 0 Z)) n c] 37)).alloc (Q #[I J 0,U ⟨#[]⟩,Y Z 0 0] 37)=b at D Q9 QY ⊢;obtain⟨-,M,p1,p2,-⟩:=aU QY;have fd:w.heap.size+1<b.heap.size:=ah Q9.out;have F:Hid (∀ V:H,(∀ k,k<b.heap.size->V.heap[k]?=b.heap[k]?)->V.cell? (T w.heap.size 0 Z)=N (I J l)/\V.cell? (T w.heap.size 1 Z)=N (U f)/\V.cell? (T w.heap.size 2 Z)=N (Y (N (T g 0 Z)) n c)):=fun V ZA=>by have e:=cj (a:=(T w.heap.size 0 Z)) (ZA w.heap.size (by omega));have e1:=cj (a:=(T w.heap.size 1 Z)) (ZA w.heap.size (by omega));have e2:=cj (a:=(T w.heap.size 2 Z)) (ZA w.heap.size (by omega));exact⟨e.trans M,e1.trans p1,e2.trans p2⟩
 have z:=ae (F b.drew (fun k A=>rfl));refine aH (fun V=>V.cell? (T w.heap.size 0 Z)=N (I J l)/\V.cell? (T w.heap.size 1 Z)=N (U f)/\V.cell? (T w.heap.size 2 Z)=N (Y (N (T g 0 Z)) n c)) 9 (by as_aux_lemma=>kernel_rfl) ?_;clear M p1 p2
 iterate 4
  refine aO 0 (v:=?_) rfl rfl (by as_aux_lemma=>kernel_rfl) (fun _ _ _ h=>h) rfl ?_ z ?_;rotate_left
  ·(intro wz o;obtain⟨Q2,s1,s2⟩:=o;go_simp)
   (try with_reducible rfl)
  (try simp only[Act.put,nzL])
 iterate 2
  refine aO 5 (v:=?_) rfl rfl (by as_aux_lemma=>kernel_rfl) (fun _ _ _ h=>h) rfl ?_ z ?_;rotate_left
  ·(intro wz o;obtain⟨Q2,s1,s2⟩:=o;go_simp)
   (try with_reducible rfl)
  (try simp only[Act.put,nzL])
 refine af (i:=4) rfl (by as_aux_lemma=>kernel_rfl) (fun K s=>?_);go_simp;have AB:=ae (((q9 b).drew).alloc ly (Q #[] 9));refine s _ _ (fun _=>F _ (fun k A=>AB.block k A)) ?_;clear s K
 (try simp only[Act.put,nzL])
 have r:Hid (Below b.heap.size b (b.alloc (Q #[] 9)).drew):=((q9 b).alloc ly _).drew;have C:Hid ((b.alloc (Q #[] 9)).drew.ownsRow b.heap.size 9 1 (Y (N (T b.heap.size 0 Z)) 0 0) 0 []):=own_below (kZ b 9 1) br.drew ly;have W:Hid ((b.alloc (Q #[] 9)).drew.ownsRow B 9 1 (Y (N (T g 0 Z)) n c) n (cu y)):=own_below (own_below HO D ly) r ly;refine af (i:=7) rfl (by as_aux_lemma=>kernel_rfl) (fun K s=>?_);refine bI (w:=(b.alloc (Q #[] 9)).drew) rfl (.tmp 7) (.tmp 9) 35 rfl b.heap.size 9 i1 (U ⟨#[]⟩) 1 16 Tryz.underlying35 aq QW bt X rfl (by decide) (Y (N (T b.heap.size 0 Z)) 0 0) 0 [] (by simp[Act.eval]) C.out (T g 0 Z) n c (cu y) (by simp[Act.eval]) (by rw[cu,KO,<-ZB.out,Nat.mul_one]) (fun q u h=>W.cells (g:=g) rfl q u h) (fun u P=>by rw[cu,JQ] at P;obtain⟨t,_,rfl⟩:=P;rfl) (by unfold maxLen;omega) (by omega) r.size ?_;intro v1 QX m x QZ;have G:Hid (Below b.heap.size b QX):=r.trans (bg (eL b.heap.size _) x r.size (fun j e=>(C.lt j e).1));rw[DN,JT] at m;have O:=ae m;obtain⟨a1,c1,rfl⟩:=eU m;clear m x QZ r C W AB;refine s _ _ (fun _=>F _ (fun k A=>G.block k A)) ?_;clear s K
 (try simp only[Act.put,nzL])
 have R:=ae (F QX (fun k A=>G.block k A));clear z;have z:=ae R.out;refine aO 8 (v:=?_) rfl rfl (by as_aux_lemma=>kernel_rfl) (fun _ _ _ h=>h) rfl ?_ z ?_;rotate_left
 ·(intro wz o;obtain⟨Q2,s1,s2⟩:=o;go_simp)
  (try with_reducible rfl)
 (try simp only[Act.put,nzL])
 obtain⟨rl,r0,r1,r2,E⟩:=aU ((G.block _ fd).trans Q9);have rf0:=E 0;have rf1:=E 1;have rf2:=E 2;clear E;refine af (i:=9) rfl (by as_aux_lemma=>kernel_rfl) (fun K s=>?_);go_simp;refine s _ _ (fun h=>absurd rfl h) ?_;clear s K z
 (try simp only[Act.put])
 refine aN (by as_aux_lemma=>kernel_rfl) ?_ _;go_wp2_with fail;refine bp (v:=QV #[I J l,U f,Y a1 n c1]) (by simp[results,Tryz.results46,go_sem,r0,r1,r2]) rfl ⟨_,rfl,⟨a1,c1,by rw[<-ZB.out],?_⟩,?_⟩
 ·show World.ownsRow _ _ _ _ _ y.length _
  rw[<-ZB.out];refine aE (aA (aA (aA O (fun e=>?_) _ _) (fun e=>?_) _ _) (fun e=>?_) _ _) D.size;all_goals
   have:=(ar O _ e).1;omega
 ·exact(((D.trans (G.mono D.size)).setCell (p:=(T (w.heap.size+1) 0 Z)) (vF _) _).setCell (p:=(T (w.heap.size+1) 1 Z)) (vF _) _).setCell (p:=(T (w.heap.size+1) 2 Z)) (vF _) _
theorem mi (w:H)(r:jH)(a:Option Addr)(c B:Nat)(h:w.ownsRow B 9 1 (Y a r.chain.length c) r.chain.length (cu r.chain))(b:r.chain.length<=1000):Calls Tryz.prog 46 #[QV #[I J r.code,U r.text,Y a r.chain.length c]] w fun e o=>∃ j,e=QU j/\pZ w o r j/\Below w.heap.size w o:=by
 obtain⟨p,l,i⟩:=r;simp only at h b ⊢;obtain⟨h0,⟨f,hn⟩ | ⟨g,cap,cur,f,h2⟩⟩:=id h
 ·have m:i=[]:=OJ.1 hn
  subst m;cases f
  exact DK w p l
 ·have n:=f
  simp only[I5] at n;obtain⟨rfl,-,rfl⟩:=n;exact AH w p l i g i.length c B rfl b h
theorem yN {S:Spc}{lies:List Ent->ByteArray->Out Ent}{t K:Nat}(l:∀ b nm c,lies b nm=.inr (.inl c)->c.length<=K):∀ k b f g c,ct S lies t k b f g=.inr (.inl c)->c.length<=K:=by
 intro k;induction k with
 | zero=>intro b f g c h;cases h
 | succ k i =>
  intro b f g c h;rw[ct] at h;split at h
  ·cases h
  ·split at h
   ·exact i _ _ _ _ h
   ·split at h
    ·exact i _ _ _ _ h
    ·rename_i c' j
     cases h
     exact l _ _ _ j
    ·cases h
theorem vO (S:Spc):∀ n b f nm c,aX S n b f nm=.inr (.inl c)->c.length<=b.length+n:=by
 intro n;have g:∀ b f nm c (K:Nat) (tgt:Nat->Out Ent),b.length<=K->(∀ t c,tgt t=.inr (.inl c)->c.length<=K)->dO S tgt b f nm=.inr (.inl c)->c.length<=K:=by
  intro b f nm c K tgt hK i h;unfold dO at h;split at h
  ·cases h
  ·split at h
   ·cases h
    rw[JZ];omega
   ·unfold fa eQ at h
    split at h
    ·cases h
    ·split at h
     ·exact i _ _ h
     ·cases h
 induction n with
 | zero =>intro b f nm c h;rw[aX] at h;exact g _ _ _ _ _ _ (by omega) (fun t c h=>by cases h) h
 | succ n j =>
  intro b f nm c h;rw[aX] at h;refine g _ _ _ _ _ _ (by omega) (fun t c h=>?_) h;rcases hr:ct S (aX S n (b++[nm])) t 201 f [] [] with ⟨made1,x⟩ | c1 | d
  ·rw[hr] at h;cases h
  ·rw[hr] at h
   cases h
   refine yN (fun f nm2 c2 h2=>?_) _ _ _ _ _ hr;have:=j _ _ _ _ h2;rw[a8,p9] at this;omega
  ·rw[hr] at h;cases h
section
variable {S:Spc}{a0 a1:Option Addr}{c0 c1:Nat}
end
section
variable {S:Spc}{a0 a1:Option Addr}{c0 c1:Nat}
end
end Go.Proofs.YtamacmnikdejeaaGreatDoor.Vp
