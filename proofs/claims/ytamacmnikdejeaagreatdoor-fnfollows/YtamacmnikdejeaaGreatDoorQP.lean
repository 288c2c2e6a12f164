import Derived.Test.YtamacmnikdejeaaGreatDoorQJ
import Derived.Deep.RegionHeld3
import Derived.Defers
import Derived.Recover
set_option maxRecDepth 100000
set_option maxHeartbeats 4000000
open Go.Addr renaming mk->N
open Go.Value renaming slice->Y,string->U,int->J,bool->QC,agg->QG
open Option renaming none->Z,some->T
open Go.Obj renaming cells->Q
open Go.IntKind renaming i64->I
open Go renaming World->G,Value->QE
open Bool renaming false->QB
open Go.Ending renaming returned->QF
namespace Go.Proofs.YtamacmnikdejeaaGreatDoor.Vp
open RowKit Go.Maps
end Go.Proofs.YtamacmnikdejeaaGreatDoor.Vp
namespace Go.Proofs.YtamacmnikdejeaaGreatDoor.Vp
open RowKit Go.Maps Ca
def pA (w b:G)(r:ji)(v:QE):Prop:=∃ a c,v=QG #[J I r.code,U r.text,Y a r.chain.length c]/\b.ownsRow w.heap.size 9 1 (Y a r.chain.length c) r.chain.length (bZ r.chain)
theorem re (w b:G)(c:Int)(t:ByteArray):pA w b ⟨c,t,[]⟩ (QG #[J I c,U t,Y Z 0 0]):=⟨Z,0,rfl,⟨rfl,.inl ⟨rfl,rfl⟩⟩⟩
def BSt (w W:G)(u v:QE):Prop:=Below w.heap.size w W/\W.heap[w.heap.size]?=T (Q #[u,v] 29 (0,0))/\W.heap[w.heap.size+1]?=T (Q #[Y Z 0 0] 131 (0,0))/\W.heap[w.heap.size+1+1]?=T (Q #[J I 0,U ⟨#[]⟩,Y Z 0 0] 37 (0,0))
section
variable {w W W':G}{u v:QE}
end
section
variable {S:Spc}{a0 a1:Option Addr}{c0 c1:Nat}
theorem Bo (S:Spc):dQ S [] []<=S.n1:=by have:=LD (p:=iJ S [] []) (l:=List.range S.n1);rw[List.length_range] at this;exact this
end
end Go.Proofs.YtamacmnikdejeaaGreatDoor.Vp
namespace Go.Proofs.YtamacmnikdejeaaGreatDoor.Vp
open RowKit
section
variable {S:Spc}{a0 a1:Option Addr}{c0 c1:Nat}
end
end Go.Proofs.YtamacmnikdejeaaGreatDoor.Vp
namespace Go.Proofs.YtamacmnikdejeaaGreatDoor.Vp
open RowKit Ca
def Dy (f:G)(hb:Nat)(s0 s1:QE)(b:G):Out Ent->Prop
 | .inl (made',x)=>∃ L h g st,ShBox b hb s0 s1 h g st (du x).code (du x).text (Y Z 0 0) QB/\b.ownsRow f.heap.size 161 6 h L.length (L.flatMap smV)/\b.ownsRow f.heap.size 9 1 g made'.length (bZ (made'.map (·.name)))/\(∀ m∈L,m.done=true->b.ownsRow f.heap.size 164 3 m.sv m.seen.length (dW m.seen))/\fe L [] made'
 | .inr (.inl c)=>∃ a k,ip f hb b (iM c) (Y a c.length k)
 | .inr (.inr d)=>ip f hb b (iN d) (Y Z 0 0)
section
variable {S:Spc}{a0 a1:Option Addr}{c0 c1:Nat}
theorem uP (w:G)(C:lA w S a0 a1)(nm:ByteArray)(hn:au nm=true):Calls Tryz.prog 45 #[QG #[Y a0 S.n0 c0,Y a1 S.n1 c1],U nm] w fun e QN=>∃ hb,e=QF (.pointer (T (N hb 0 Z)))/\Dy w hb (Y a0 S.n0 c0) (Y a1 S.n1 c1) QN (aZ S 60 [] [] nm)/\Below w.heap.size w QN:=by
 obtain⟨R,hR⟩:∃ R,R=aZ S 60 [] [] nm:=⟨_,rfl⟩
 have QJ:Hid (∀ (W:G) (hb:Nat),SI w hb (Y a0 S.n0 c0) (Y a1 S.n1 c1) W [] [] [] (Y Z 0 0) (Y Z 0 0) (Y Z 0 0)->Calls Tryz.prog 91 #[.pointer (T (N hb 0 Z)),U nm] W fun e QN=>jo w hb (Y a0 S.n0 c0) (Y a1 S.n1 c1) [] [] W e QN R):=by intro W hb M;rw[hR];refine Bl C 60 [] [] [] _ _ _ W nm rfl M ⟨List.Pairwise.nil,rfl,fun x y=>absurd y nj,fun x y=>absurd y nj,fun x y=>absurd y nj⟩ (ie S []) ?_ (fun x y=>absurd y nj) hn;have h1:=Bo S;have h2:=C.ok.small;unfold eK;simp only[GD];omega
 rw[<-hR];have zA:(w.alloc (Q #[Y a0 S.n0 c0,Y a1 S.n1 c1] 29)).heap.size=w.heap.size+1:=by simp
 have QR:=ae (((q9 w).alloc ly (Q #[Y a0 S.n0 c0,Y a1 S.n1 c1] 29)).alloc (by simp) (Q #[Y a0 S.n0 c0,Y a1 S.n1 c1,Y Z 0 0,Y Z 0 0,Y Z 0 0,J I 0,U ⟨#[]⟩,Y Z 0 0,QC QB] 89));have QL:Hid (SI w (w.heap.size+1) (Y a0 S.n0 c0) (Y a1 S.n1 c1) ((w.alloc (Q #[Y a0 S.n0 c0,Y a1 S.n1 c1] 29)).alloc (Q #[Y a0 S.n0 c0,Y a1 S.n1 c1,Y Z 0 0,Y Z 0 0,Y Z 0 0,J I 0,U ⟨#[]⟩,Y Z 0 0,QC QB] 89)) [] [] [] (Y Z 0 0) (Y Z 0 0) (Y Z 0 0)):=by refine⟨QR,CV _,?_,⟨rfl,.inl ⟨rfl,rfl⟩⟩,⟨rfl,.inl ⟨rfl,rfl⟩⟩,⟨rfl,.inl ⟨rfl,rfl⟩⟩,(fun k h=>by cases h),fun m QK=>absurd QK nj⟩;have h2:=eT (w.alloc (Q #[Y a0 S.n0 c0,Y a1 S.n1 c1] 29)) (Q #[Y a0 S.n0 c0,Y a1 S.n1 c1,Y Z 0 0,Y Z 0 0,Y Z 0 0,J I 0,U ⟨#[]⟩,Y Z 0 0,QC QB] 89);rw[zA] at h2;exact h2
 clear hn C hR zA;go_enter Tryz.func45,Tryz.ntmps45;go_wp2_with fail;generalize (w.alloc (Q #[Y a0 S.n0 c0,Y a1 S.n1 c1] 29)).alloc (Q #[Y a0 S.n0 c0,Y a1 S.n1 c1,Y Z 0 0,Y Z 0 0,Y Z 0 0,J I 0,U ⟨#[]⟩,Y Z 0 0,QC QB] 89)=W0 at QR QL ⊢;obtain⟨hb,QM⟩:∃ hb,hb=w.heap.size+1:=⟨_,rfl⟩
 rw[<-QM] at QL ⊢;have QO:w.heap.size<=hb:=by omega
 clear QM;refine(QJ W0 hb QL).mono ?_;clear QJ;rintro e q l;rcases R with ⟨made',x⟩ | c | d
 ·obtain⟨L,md,or,st,rfl,M,hrel,-,f⟩:=l
  have o:=ae (QR.trans f.below);have X:=ae hrel;obtain⟨B,H⟩:∃ B,B=(du x).code:=⟨_,rfl⟩
  obtain⟨z,E⟩:∃ z,z=(du x).text:=⟨_,rfl⟩
  have la:=ae H;have aq:=ae E;rw[<-H,<-E];have i:=ae ((q9 q).alloc ly (Q #[J I B,U z,Y Z 0 0] 37));have A:=ae (M.below i ly);clear f hrel M H E;obtain⟨P,-,-,-,-,-,b5,b6,b7,b8,O⟩:=A.box.facts;have bf5:=O 5;have bf6:=O 6;have bf7:=O 7;clear O;go_wp2_with fail;go_ret;have t:∀ {size n:Nat} {K:TypeId} {u:QE} {V:List QE},(q.alloc (Q #[J I B,U z,Y Z 0 0] 37)).ownsRow w.heap.size K size u n V->89≠K->((((q.alloc (Q #[J I B,U z,Y Z 0 0] 37)).setCell (N hb 5 Z) (J I B)).setCell (N hb 6 Z) (U z)).setCell (N hb 7 Z) (Y Z 0 0)).ownsRow w.heap.size K size u n V:=fun QH ht=>by
   rename_i size n K u V;have D:u.ownBlock≠T hb:=fun e=>by obtain⟨_,_,cs2,ld⟩:=aj QH hb e;exact absurd (ar A.box ld) ht
   exact ay (ay (ay QH D _ _) D _ _) D _ _
  refine⟨hb,rfl,⟨L,md,or,st,?_,t A.rmd (by decide),t A.ror (by decide),fun m QK hd=>t (A.seen m QK hd) (by decide),X⟩,?_⟩
  ·rw[<-la.out,<-aq.out]
   exact aA (aA (aA A.box (j:=5) _) (j:=6) _) (j:=7) _
  ·exact(((o.trans (i.mono o.size)).setCell (p:=(N hb 5 Z)) QO _).setCell (p:=(N hb 6 Z)) QO _).setCell (p:=(N hb 7 Z)) QO _
 ·obtain⟨a,k,rfl,⟨s0,s1,ex,fd,bt,g,b⟩,f⟩:=l
  have r:=ae g;have QP:=ae b;have o:=ae (QR.trans f.below);clear g b f;unfold gH iM;dsimp only;have i:=ae ((q9 q).alloc ly (Q #[J I 6,U ⟨#[]⟩,Y a c.length k] 37));have s:=ae (ShBox.blk r (i.block _ (ag r)));obtain⟨P,-,-,-,-,-,-,-,-,b8,-⟩:=s.facts;go_wp2_with fail;go_ret;exact⟨hb,rfl,⟨a,k,_,_,_,_,_,s,own_below QP i ly⟩,o.trans (i.mono o.size)⟩
 ·obtain⟨rfl,⟨s0,s1,ex,fd,bt,g,b⟩,f⟩:=l
  have r:=ae g;have QP:=ae b;have o:=ae (QR.trans f.below);clear g b f;unfold gH iN;dsimp only;have i:=ae ((q9 q).alloc ly (Q #[J I 7,U d,Y Z 0 0] 37));have s:=ae (ShBox.blk r (i.block _ (ag r)));obtain⟨P,-,-,-,-,-,-,-,-,b8,-⟩:=s.facts;go_wp2_with fail;go_ret;exact⟨hb,rfl,⟨_,_,_,_,_,s,own_below QP i ly⟩,o.trans (i.mono o.size)⟩
end
theorem Bp (w:G)(g:Int)(f:ByteArray):Calls Tryz.prog 46 #[QG #[J I g,U f,Y Z 0 0]] w fun e QP=>∃ y,e=QF y/\pA w QP ⟨g,f,[]⟩ y/\Below w.heap.size w QP:=by
 have q:=ae (((q9 w).alloc ly (Q #[J I g,U f,Y Z 0 0] 37)).alloc (by simp) (Q #[J I 0,U ⟨#[]⟩,Y Z 0 0] 37));have u:Hid (((w.alloc (Q #[J I g,U f,Y Z 0 0] 37)).alloc (Q #[J I 0,U ⟨#[]⟩,Y Z 0 0] 37)).heap[w.heap.size+1]?=T (Q #[J I 0,U ⟨#[]⟩,Y Z 0 0] 37 (0,0))):=by have h2:=eT (w.alloc (Q #[J I g,U f,Y Z 0 0] 37)) (Q #[J I 0,U ⟨#[]⟩,Y Z 0 0] 37);rw[show(w.alloc (Q #[J I g,U f,Y Z 0 0] 37)).heap.size=w.heap.size+1 by simp] at h2;exact h2
 have E:Hid (((w.alloc (Q #[J I g,U f,Y Z 0 0] 37)).alloc (Q #[J I 0,U ⟨#[]⟩,Y Z 0 0] 37)).heap[w.heap.size]?=T (Q #[J I g,U f,Y Z 0 0] 37 (0,0))):=by have h2:=eT w (Q #[J I g,U f,Y Z 0 0] 37);exact(((a8 (w.heap.size+1) _).alloc (by simp) _).block w.heap.size (by omega)).trans h2
 go_enter Tryz.func46,Tryz.ntmps46;go_upto_region 1 with fail;generalize (w.alloc (Q #[J I g,U f,Y Z 0 0] 37)).alloc (Q #[J I 0,U ⟨#[]⟩,Y Z 0 0] 37)=b at q u E ⊢;obtain⟨-,z,B,A,-⟩:=aY E;have QR:w.heap.size+1<b.heap.size:=ag u.out;have r:Hid (∀ V:G,(∀ k,k<b.heap.size->V.heap[k]?=b.heap[k]?)->V.cell? (N w.heap.size 0 Z)=T (J I g)/\V.cell? (N w.heap.size 1 Z)=T (U f)/\V.cell? (N w.heap.size 2 Z)=T (Y Z 0 0)):=fun V t=>by have e:=cq (a:=(N w.heap.size 0 Z)) (t w.heap.size (by omega));have L:=cq (a:=(N w.heap.size 1 Z)) (t w.heap.size (by omega));have M:=cq (a:=(N w.heap.size 2 Z)) (t w.heap.size (by omega));exact⟨e.trans z,L.trans B,M.trans A⟩
 have n:=ae (r b.drew (fun k m=>rfl));refine aD (fun V=>V.cell? (N w.heap.size 0 Z)=T (J I g)/\V.cell? (N w.heap.size 1 Z)=T (U f)/\V.cell? (N w.heap.size 2 Z)=T (Y Z 0 0)) 9 (by as_aux_lemma=>kernel_rfl) ?_;clear z B A
 iterate 4
  refine aL 0 (v:=?_) rfl rfl (by as_aux_lemma=>kernel_rfl) (fun _ _ _ h=>h) rfl ?_ n ?_;rotate_left
  ·(intro H j;obtain⟨s0,s1,D⟩:=j;go_simp)
   (try with_reducible rfl)
  (try simp only[Act.put,nzL])
 iterate 2
  refine aL 5 (v:=?_) rfl rfl (by as_aux_lemma=>kernel_rfl) (fun _ _ _ h=>h) rfl ?_ n ?_;rotate_left
  ·(intro H j;obtain⟨s0,s1,D⟩:=j;go_simp)
   (try with_reducible rfl)
  (try simp only[Act.put,nzL])
 refine af (i:=4) rfl (by as_aux_lemma=>kernel_rfl) (fun K l=>?_);go_simp;have AB:=ae (((q9 b).drew).alloc ly (Q #[] 9));refine l _ _ (fun _=>r _ (fun k m=>AB.block k m)) ?_;clear l K
 (try simp only[Act.put,nzL])
 refine af (i:=7) rfl (by as_aux_lemma=>kernel_rfl) (fun K l=>?_);go_simp;have o:Hid (Below b.heap.size b (b.alloc (Q #[] 9)).drew):=((q9 b).alloc ly _).drew;refine l _ _ (fun _=>r _ (fun k m=>o.block k m)) ?_;clear l K
 (try simp only[Act.put,nzL])
 have x:Hid ((b.alloc (Q #[] 9)).drew.ownsRow b.heap.size 9 1 (Y (T (N b.heap.size 0 Z)) 0 0) 0 []):=own_below (ki b 9 1) br.drew ly;generalize (b.alloc (Q #[] 9)).drew=QN at o x ⊢;have C:=ae (r QN (fun k m=>o.block k m));clear n;have n:=ae C.out;refine aL 8 (v:=?_) rfl rfl (by as_aux_lemma=>kernel_rfl) (fun _ _ _ h=>h) rfl ?_ n ?_;rotate_left
 ·(intro H j;obtain⟨s0,s1,D⟩:=j;go_simp)
  (try with_reducible rfl)
 (try simp only[Act.put,nzL])
 obtain⟨rl,r0,r1,QO,s⟩:=aY ((o.block _ QR).trans u);have rf0:=s 0;have rf1:=s 1;have rf2:=s 2;clear s;refine af (i:=9) rfl (by as_aux_lemma=>kernel_rfl) (fun K l=>?_);go_simp;refine l _ _ (fun h=>absurd rfl h) ?_;clear l K n
 (try simp only[Act.put])
 refine aM (by as_aux_lemma=>kernel_rfl) ?_ _;go_wp2_with fail;refine bp (v:=QG #[J I g,U f,Y (T (N b.heap.size 0 Z)) 0 0]) (by simp[results,Tryz.results46,go_sem,r0,r1,QO]) rfl ⟨_,rfl,⟨T (N b.heap.size 0 Z),0,rfl,?_⟩,?_⟩
 ·refine aE (ay (ay (ay x (fun e=>?_) _ _) (fun e=>?_) _ _) (fun e=>?_) _ _) q.size
  all_goals
   have:=(aj x _ e).1;omega
 ·exact(((q.trans (o.mono q.size)).setCell (p:=(N (w.heap.size+1) 0 Z)) (CV _) _).setCell (p:=(N (w.heap.size+1) 1 Z)) (CV _) _).setCell (p:=(N (w.heap.size+1) 2 Z)) (CV _) _
theorem zm (w:G)(f:Int)(l:ByteArray)(A:List ByteArray)(g n c B:Nat)(hn:n=A.length)(hlen:n<=1000)(R:w.ownsRow B 9 1 (Y (T (N g 0 Z)) n c) n (bZ A)):Calls Tryz.prog 46 #[QG #[J I f,U l,Y (T (N g 0 Z)) n c]] w fun e w'=>∃ O,e=QF O/\pA w w' ⟨f,l,A⟩ O/\Below w.heap.size w w':=by
 obtain⟨i1,QJ,QH,M,aq⟩:=eY gI;have HO:=ae R;have QP:=ae hn;clear R hn;have D:=ae (((q9 w).alloc ly (Q #[J I f,U l,Y (T (N g 0 Z)) n c] 37)).alloc (by simp) (Q #[J I 0,U ⟨#[]⟩,Y Z 0 0] 37));have L:Hid (((w.alloc (Q #[J I f,U l,Y (T (N g 0 Z)) n c] 37)).alloc (Q #[J I 0,U ⟨#[]⟩,Y Z 0 0] 37)).heap[w.heap.size+1]?=T (Q #[J I 0,U ⟨#[]⟩,Y Z 0 0] 37 (0,0))):=by have h2:=eT (w.alloc (Q #[J I f,U l,Y (T (N g 0 Z)) n c] 37)) (Q #[J I 0,U ⟨#[]⟩,Y Z 0 0] 37);rw[show(w.alloc (Q #[J I f,U l,Y (T (N g 0 Z)) n c] 37)).heap.size=w.heap.size+1 by simp] at h2;exact h2
 have QM:Hid (((w.alloc (Q #[J I f,U l,Y (T (N g 0 Z)) n c] 37)).alloc (Q #[J I 0,U ⟨#[]⟩,Y Z 0 0] 37)).heap[w.heap.size]?=T (Q #[J I f,U l,Y (T (N g 0 Z)) n c] 37 (0,0))):=by have h2:=eT w (Q #[J I f,U l,Y (T (N g 0 Z)) n c] 37);exact(((a8 (w.heap.size+1) _).alloc (by simp) _).block w.heap.size (by omega)).trans h2
 go_enter Tryz.func46,Tryz.ntmps46;go_upto_region 1 with fail;generalize (w.alloc (Q #[J I f,U l,Y (T (N g 0 Z)) n c] 37)).alloc (Q #[J I 0,U ⟨#[]⟩,Y Z 0 0] 37)=b at D L QM ⊢;obtain⟨-,S,p1,QL,-⟩:=aY QM;have QK:w.heap.size+1<b.heap.size:=ag L.out;have QR:Hid (∀ V:G,(∀ k,k<b.heap.size->V.heap[k]?=b.heap[k]?)->V.cell? (N w.heap.size 0 Z)=T (J I f)/\V.cell? (N w.heap.size 1 Z)=T (U l)/\V.cell? (N w.heap.size 2 Z)=T (Y (T (N g 0 Z)) n c)):=fun V QO=>by have e:=cq (a:=(N w.heap.size 0 Z)) (QO w.heap.size (by omega));have e1:=cq (a:=(N w.heap.size 1 Z)) (QO w.heap.size (by omega));have e2:=cq (a:=(N w.heap.size 2 Z)) (QO w.heap.size (by omega));exact⟨e.trans S,e1.trans p1,e2.trans QL⟩
 have y:=ae (QR b.drew (fun k z=>rfl));refine aD (fun V=>V.cell? (N w.heap.size 0 Z)=T (J I f)/\V.cell? (N w.heap.size 1 Z)=T (U l)/\V.cell? (N w.heap.size 2 Z)=T (Y (T (N g 0 Z)) n c)) 9 (by as_aux_lemma=>kernel_rfl) ?_;clear S p1 QL
 iterate 4
  refine aL 0 (v:=?_) rfl rfl (by as_aux_lemma=>kernel_rfl) (fun _ _ _ h=>h) rfl ?_ y ?_;rotate_left
  ·(intro wz s;obtain⟨s0,s1,QN⟩:=s;go_simp)
   (try with_reducible rfl)
  (try simp only[Act.put,nzL])
 iterate 2
  refine aL 5 (v:=?_) rfl rfl (by as_aux_lemma=>kernel_rfl) (fun _ _ _ h=>h) rfl ?_ y ?_;rotate_left
  ·(intro wz s;obtain⟨s0,s1,QN⟩:=s;go_simp)
   (try with_reducible rfl)
  (try simp only[Act.put,nzL])
 refine af (i:=4) rfl (by as_aux_lemma=>kernel_rfl) (fun K o=>?_);go_simp;have AB:=ae (((q9 b).drew).alloc ly (Q #[] 9));refine o _ _ (fun _=>QR _ (fun k z=>AB.block k z)) ?_;clear o K
 (try simp only[Act.put,nzL])
 have r:Hid (Below b.heap.size b (b.alloc (Q #[] 9)).drew):=((q9 b).alloc ly _).drew;have C:Hid ((b.alloc (Q #[] 9)).drew.ownsRow b.heap.size 9 1 (Y (T (N b.heap.size 0 Z)) 0 0) 0 []):=own_below (ki b 9 1) br.drew ly;have RO:Hid ((b.alloc (Q #[] 9)).drew.ownsRow B 9 1 (Y (T (N g 0 Z)) n c) n (bZ A)):=own_below (own_below HO D ly) r ly;refine af (i:=7) rfl (by as_aux_lemma=>kernel_rfl) (fun K o=>?_);refine bA (w:=(b.alloc (Q #[] 9)).drew) rfl (.tmp 7) (.tmp 9) 35 rfl b.heap.size 9 i1 (U ⟨#[]⟩) 1 16 Tryz.underlying35 QJ QH M aq rfl (by decide) (Y (T (N b.heap.size 0 Z)) 0 0) 0 [] (by simp[Act.eval]) C.out (N g 0 Z) n c (bZ A) (by simp[Act.eval]) (by rw[bZ,JN,<-QP.out,Nat.mul_one]) (fun q u h=>RO.cells (g:=g) rfl q u h) (fun u W=>by rw[bZ,IW] at W;obtain⟨t,_,rfl⟩:=W;rfl) (by unfold maxLen;omega) (by omega) r.size ?_;intro v1 X m x P;have E:Hid (Below b.heap.size b X):=r.trans (bg (a8 b.heap.size _) x r.size (fun j e=>(C.lt j e).1));rw[D0,IN] at m;have LO:=ae m;obtain⟨a1,c1,rfl⟩:=ew m;clear m x P r C RO AB;refine o _ _ (fun _=>QR _ (fun k z=>E.block k z)) ?_;clear o K
 (try simp only[Act.put,nzL])
 have bt:=ae (QR X (fun k z=>E.block k z));clear y;have y:=ae bt.out;refine aL 8 (v:=?_) rfl rfl (by as_aux_lemma=>kernel_rfl) (fun _ _ _ h=>h) rfl ?_ y ?_;rotate_left
 ·(intro wz s;obtain⟨s0,s1,QN⟩:=s;go_simp)
  (try with_reducible rfl)
 (try simp only[Act.put,nzL])
 obtain⟨rl,r0,r1,r2,H⟩:=aY ((E.block _ QK).trans L);have rf0:=H 0;have rf1:=H 1;have rf2:=H 2;clear H;refine af (i:=9) rfl (by as_aux_lemma=>kernel_rfl) (fun K o=>?_);go_simp;refine o _ _ (fun h=>absurd rfl h) ?_;clear o K y
 (try simp only[Act.put])
 refine aM (by as_aux_lemma=>kernel_rfl) ?_ _;go_wp2_with fail;refine bp (v:=QG #[J I f,U l,Y a1 n c1]) (by simp[results,Tryz.results46,go_sem,r0,r1,r2]) rfl ⟨_,rfl,⟨a1,c1,by rw[<-QP.out],?_⟩,?_⟩
 ·show World.ownsRow _ _ _ _ _ A.length _
  rw[<-QP.out];refine aE (ay (ay (ay LO (fun e=>?_) _ _) (fun e=>?_) _ _) (fun e=>?_) _ _) D.size;all_goals
   have:=(aj LO _ e).1;omega
 ·exact(((D.trans (E.mono D.size)).setCell (p:=(N (w.heap.size+1) 0 Z)) (CV _) _).setCell (p:=(N (w.heap.size+1) 1 Z)) (CV _) _).setCell (p:=(N (w.heap.size+1) 2 Z)) (CV _) _
theorem lH (w:G)(r:ji)(a:Option Addr)(c B:Nat)(h:w.ownsRow B 9 1 (Y a r.chain.length c) r.chain.length (bZ r.chain))(b:r.chain.length<=1000):Calls Tryz.prog 46 #[QG #[J I r.code,U r.text,Y a r.chain.length c]] w fun e p=>∃ m,e=QF m/\pA w p r m/\Below w.heap.size w p:=by
 obtain⟨n,o,i⟩:=r;simp only at h b ⊢;obtain⟨h0,⟨f,hn⟩ | ⟨g,cap,cur,f,h2⟩⟩:=id h
 ·have l:i=[]:=L8.1 hn
  subst l;cases f
  exact Bp w n o
 ·have j:=f
  simp only[IB] at j;obtain⟨rfl,-,rfl⟩:=j;exact zm w n o i g i.length c B rfl b h
theorem xH {S:Spc}{lies:List Ent->ByteArray->Out Ent}{t K:Nat}(j:∀ b nm c,lies b nm=.inr (.inl c)->c.length<=K):∀ k b g f c,bW S lies t k b g f=.inr (.inl c)->c.length<=K:=by
 intro k;induction k with
 | zero=>intro b g f c h;cases h
 | succ k i =>
  intro b g f c h;rw[bW] at h;split at h
  ·cases h
  ·split at h
   ·exact i _ _ _ _ h
   ·split at h
    ·exact i _ _ _ _ h
    ·rename_i c' l
     cases h
     exact j _ _ _ l
    ·cases h
theorem uQ (S:Spc):∀ n b f nm c,aZ S n b f nm=.inr (.inl c)->c.length<=b.length+n:=by
 intro n;have g:∀ b f nm c (K:Nat) (tgt:Nat->Out Ent),b.length<=K->(∀ t c,tgt t=.inr (.inl c)->c.length<=K)->dx S tgt b f nm=.inr (.inl c)->c.length<=K:=by
  intro b f nm c K tgt hK j h;unfold dx at h;split at h
  ·cases h
  ·split at h
   ·cases h
    rw[IM];omega
   ·unfold eJ er at h
    split at h
    ·cases h
    ·split at h
     ·exact j _ _ h
     ·cases h
 induction n with
 | zero =>intro b f nm c h;rw[aZ] at h;exact g _ _ _ _ _ _ (by omega) (fun t c h=>by cases h) h
 | succ n i =>
  intro b f nm c h;rw[aZ] at h;refine g _ _ _ _ _ _ (by omega) (fun t c h=>?_) h;rcases hr:bW S (aZ S n (b++[nm])) t 201 f [] [] with ⟨made1,x⟩ | c1 | d
  ·rw[hr] at h;cases h
  ·rw[hr] at h
   cases h
   refine xH (fun f nm2 c2 h2=>?_) _ _ _ _ _ hr;have:=i _ _ _ _ h2;rw[eI,AS] at this;omega
  ·rw[hr] at h;cases h
section
variable {S:Spc}{a0 a1:Option Addr}{c0 c1:Nat}
end
section
variable {S:Spc}{a0 a1:Option Addr}{c0 c1:Nat}
end
end Go.Proofs.YtamacmnikdejeaaGreatDoor.Vp
