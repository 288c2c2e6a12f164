import Derived.Test.YtkophfgkcijjkaaGreatDoorYN
import Derived.Test.YtkophfgkcijjkaaGreatDoorZA
import Derived.Test.YtkophfgkcijjkaaGreatDoorZU
import Derived.WalkSmall
set_option maxRecDepth 100000
set_option maxHeartbeats 4000000
namespace Go.Proofs.YtkophfgkcijjkaaGreatDoor.Vp
open RowKit Ca
theorem rO (a b:Option Addr)(n c d:Nat)(f:Nat→ByteArray)(w:World)(hn:n≤1048576)(ha:SlStr w a n f)(hb:SlStr w b n f) :
  Calls Tryz.prog 37 #[.slice a n c,.slice b n d] w fun e w'=>e=.returned (.bool true)∧Below w.heap.size w w':=by
 have HA:=ae ha
 have HB:=ae hb
 clear ha hb
 go_enter Tryz.func37,Tryz.ntmps37
 go_wp2_with fail
 go_loopw [5] (fun i wr=>∃ k:Nat,k≤n∧i=.int .i64 k∧Hid (Below w.heap.size w wr)) (fun i _=>n - (intOf i).toNat)
 case atStart=>exact ⟨0,by omega,rfl,Below.refl _ _⟩
 case round =>
  obtain ⟨k,hk,rfl,HW⟩:=hrel
  by_cases hlt:k<n
  ·rcases HA.out.below HW.out lr with h | ⟨sb,so,rfl,hr⟩
   ·omega
   rcases HB.out.below HW.out lr with h | ⟨tb,sp,rfl,hq⟩
   ·omega
   have e0:=hr.2 k hlt
   have g0:=hq.2 k hlt
   have hsb:=hr.1
   have htb:=hq.1
   clear hr hq
   have hlt2:(k:Int)<n:=by omega
   go_wp2_with fail
   go_quiet (fail)
   have B1:=ae (below_drewN HW.out nq)
   clear e0 g0
   generalize wr.drewN nq=W at B1 ⊢
   go_wp2
   exact ⟨⟨k+1,by omega,by go_num,B1.out⟩,by simp [intOf];omega⟩
  ·obtain rfl:k=n:=by omega
   go_wp2
   go_ret
   exact ⟨rfl,HW.out⟩
theorem pY {w:World}{base c:Nat}{a:Option Addr}{L:List ByteArray}(h:w.ownsRow base 9 1 (.slice a L.length c) L.length (aU L)):SlStr w a L.length (fun i=>L.getD i ⟨#[]⟩):=by
 by_cases hz:L.length=0
 ·exact .inl hz
 ·rcases h.2 with ⟨hv,h0⟩ | ⟨g,cap,cur,hv,hb,hg,h1,h2,h3,h4⟩
  ·exact absurd h0 hz
  ·simp only [Value.slice.injEq] at hv
   obtain ⟨rfl,-,rfl⟩:=hv
   refine .inr ⟨g,0,rfl,az hg,fun i hi=>?_⟩
   have hc:=h.cells (g:=g) rfl i (.string L[i]) (by simp [aU,hi])
   rw [fB] at hc
   show w.cell? ⟨g,0+i,none⟩=some (.string (L.getD i ⟨#[]⟩))
   rw [List.getD_eq_getElem?_getD,List.getElem?_eq_getElem hi]
   exact hc
theorem jb (k:Int)(t:ByteArray)(L:List ByteArray)(hL:L.length≤1048576)(a b:Option Addr)(c d ba bb:Nat)(w:World)(ha:w.ownsRow ba 9 1 (.slice a L.length c) L.length (aU L))(hb:w.ownsRow bb 9 1 (.slice b L.length d) L.length (aU L)) :
  Calls Tryz.prog 14 #[.agg #[.int .i64 k,.string t,.slice a L.length c],.agg #[.int .i64 k,.string t,.slice b L.length d]] w fun e w'=>e=.returned (.bool true)∧Below w.heap.size w w':=by
 have A0:=ae (((Below.refl w.heap.size w).alloc lr (.cells #[.int .i64 k,.string t,.slice a L.length c] 41)).alloc (by simp) (.cells #[.int .i64 k,.string t,.slice b L.length d] 41))
 have H:=ae (rO a b L.length c d (fun i=>L.getD i ⟨#[]⟩) ((w.alloc (.cells #[.int .i64 k,.string t,.slice a L.length c] 41)).alloc (.cells #[.int .i64 k,.string t,.slice b L.length d] 41)) hL ((pY ha).below A0.out lr) ((pY hb).below A0.out lr))
 clear ha hb
 go_enter Tryz.func14,Tryz.ntmps14
 go_wp2_with fail
 refine H.out.mono ?_
 rintro e w1 ⟨rfl,hB⟩
 have B1:=ae (A0.out.trans (hB.mono (by simp;omega)))
 clear hB
 go_wp2
 go_ret
 exact ⟨rfl,B1.out⟩
theorem tF (a:Option Addr)(n cap:Nat)(f:Nat→aD)(w:World)(hn:0<n)(h9:n≤1048576)(hv:SlDeed w a n f) :
  Calls Tryz.prog 31 #[.agg #[.slice a n cap]] w fun e w'=>e=.returned (.string (f (n - 1)).name)∧Below w.heap.size w w':=by
 have A0:=ae ((Below.refl w.heap.size w).alloc lr (.cells #[.slice a n cap] 59))
 rcases hv with h | ⟨b,off,rfl,hr⟩
 ·omega
 have hb:=hr.1
 have e0:=(A0.out.cell (p:=⟨b,off+(n - 1)*6,none⟩) hb).trans (hr.2 (n - 1) (by omega)).1
 clear hr
 obtain ⟨m,hm⟩:∃ m,n=m+1:=⟨n - 1,by omega⟩
 subst hm
 rw [Nat.add_sub_cancel] at e0 ⊢
 generalize (f m).name=t at e0 ⊢
 have hw:IntKind.i64.wrap ((m:Int)+1 - 1)=(m:Int):=by rw [IntKind.wrap_i64];omega
 go_enter Tryz.func31,Tryz.ntmps31
 go_wp2
 go_ret
 exact ⟨rfl,A0.out⟩
def iz (f:Nat→aD)(l:Link):aw:=if l.ask=false then ⟨l.has,0,⟨#[]⟩⟩ else if (f l.at_.toNat).kind=2 then fl else ⟨true,(f l.at_.toNat).code,(f l.at_.toNat).text⟩
theorem rP (a:Option Addr)(n cap:Nat)(f:Nat→aD)(l:Link)(w:World)(hv:SlDeed w a n f)(hat:l.ask=true→0≤l.at_∧l.at_.toNat<n) :
  Calls Tryz.prog 33 #[.agg #[.slice a n cap],.agg #[.string l.name,.bool l.ask,.bool l.has,.int .i64 l.at_]] w fun e w'=>e=.returned (.agg #[.bool (iz f l).has,.int .i64 (iz f l).code,.string (iz f l).text])∧Below w.heap.size w w':=by
 obtain ⟨r,hr⟩:∃ r,r=iz f l:=⟨_,rfl⟩
 rw [← hr]
 have HR:=ae hr
 have HV:=ae hv
 clear hr hv
 obtain ⟨nm,ask,has,at_⟩:=l
 simp only at hat
 have hz1:(w.alloc (.cells #[.slice a n cap] 59)).heap.size=w.heap.size+1:=by simp
 have hz2:((w.alloc (.cells #[.slice a n cap] 59)).alloc (.cells #[.string nm,.bool ask,.bool has,.int .i64 at_] 73)).heap.size=w.heap.size+2:=by simp
 have A0:=ae ((((Below.refl w.heap.size w).alloc lr (.cells #[.slice a n cap] 59)).alloc (by simp) (.cells #[.string nm,.bool ask,.bool has,.int .i64 at_] 73)).alloc (by simp<;>omega) (.cells #[.bool false,.int .i64 0,.string ⟨#[]⟩] 75))
 have kL:=heap_alloc_new (w.alloc (.cells #[.slice a n cap] 59)) (.cells #[.string nm,.bool ask,.bool has,.int .i64 at_] 73)
 rw [hz1] at kL
 have kR:=heap_alloc_new ((w.alloc (.cells #[.slice a n cap] 59)).alloc (.cells #[.string nm,.bool ask,.bool has,.int .i64 at_] 73)) (.cells #[.bool false,.int .i64 0,.string ⟨#[]⟩] 75)
 rw [hz2] at kR
 have B1:=(Below.refl (w.heap.size+1) (w.alloc (.cells #[.slice a n cap] 59))).alloc (by rw [hz1];exact Nat.le_refl _) (.cells #[.string nm,.bool ask,.bool has,.int .i64 at_] 73)
 have B2:=(Below.refl (w.heap.size+2) ((w.alloc (.cells #[.slice a n cap] 59)).alloc (.cells #[.string nm,.bool ask,.bool has,.int .i64 at_] 73))).alloc (by rw [hz2];exact Nat.le_refl _) (.cells #[.bool false,.int .i64 0,.string ⟨#[]⟩] 75)
 have kA:=(B2.block w.heap.size (by omega)).trans ((B1.block w.heap.size (by omega)).trans (heap_alloc_new w (.cells #[.slice a n cap] 59)))
 have kL:=(B2.block (w.heap.size+1) (by omega)).trans kL
 clear B1 B2 hz1 hz2
 go_enter Tryz.func33,Tryz.ntmps33
 go_upto_region 1 with fail
 generalize ((w.alloc (.cells #[.slice a n cap] 59)).alloc (.cells #[.string nm,.bool ask,.bool has,.int .i64 at_] 73)).alloc (.cells #[.bool false,.int .i64 0,.string ⟨#[]⟩] 75)=W0 at A0 kA kL kR ⊢
 have a0:W0.cell? ⟨w.heap.size,0,none⟩=some (.slice a n cap):=by simp [World.cell?,kA]
 have c1:W0.cell? ⟨w.heap.size+1,1,none⟩=some (.bool ask):=by simp [World.cell?,kL]
 have c2:W0.cell? ⟨w.heap.size+1,2,none⟩=some (.bool has):=by simp [World.cell?,kL]
 have c3:W0.cell? ⟨w.heap.size+1,3,none⟩=some (.int .i64 at_):=by simp [World.cell?,kL]
 have r0:W0.cell? ⟨w.heap.size+2,0,none⟩=some (.bool false):=by simp [World.cell?,kR]
 have r1:W0.cell? ⟨w.heap.size+2,1,none⟩=some (.int .i64 0):=by simp [World.cell?,kR]
 have r2:W0.cell? ⟨w.heap.size+2,2,none⟩=some (.string ⟨#[]⟩):=by simp [World.cell?,kR]
 have f0:W0.frozen? ⟨w.heap.size+2,0,none⟩=false:=by simp [World.frozen?,kR]
 have f1:W0.frozen? ⟨w.heap.size+2,1,none⟩=false:=by simp [World.frozen?,kR]
 have f2:W0.frozen? ⟨w.heap.size+2,2,none⟩=false:=by simp [World.frozen?,kR]
 have l0:=az kA
 have l1:=az kL
 have l2:=az kR
 clear kA kL kR
 cases ask with
 | false =>
  have hR:=HR.out
  simp only [iz,if_true] at hR
  subst hR
  have BE:=ae (((A0.out.setCell (p:=⟨w.heap.size+2,0,none⟩) (by show w.heap.size≤w.heap.size+2;omega) (.bool has)).setCell (p:=⟨w.heap.size+2,1,none⟩) (by show w.heap.size≤w.heap.size+2;omega) (.int .i64 0)).setCell (p:=⟨w.heap.size+2,2,none⟩) (by show w.heap.size≤w.heap.size+2;omega) (.string ⟨#[]⟩))
  go_wp2
  exact bodyPost_ret (v:=.agg #[.bool has,.int .i64 0,.string ⟨#[]⟩]) (by simp [results,Tryz.results33,go_sem,r0,r1,r2]) rfl ⟨rfl,BE.out⟩
 | true =>
  obtain ⟨h1,h2⟩:=hat rfl
  obtain ⟨p,rfl⟩:=Int.eq_ofNat_of_zero_le h1
  rw [Int.toNat_natCast] at h2
  have hp1:¬ (p:Int)<0:=by omega
  have hp2:¬ (n:Int)≤(p:Int):=by omega
  have hp3:(p:Int)<(n:Int):=by omega
  rcases HV.out.below A0.out lr with h | ⟨b,off,rfl,hrow⟩
  ·omega
  obtain ⟨-,e1,e2,e3,-,-⟩:=hrow.2 p h2
  have hb:=hrow.1
  clear hrow h1
  have hR:=HR.out
  simp only [iz,Int.toNat_natCast] at hR
  rw [if_neg (by simp)] at hR
  clear HR hat
  generalize f p=x at e1 e2 e3 hR
  by_cases hk:x.kind=2
  ·rw [if_pos hk] at hR
   subst hR
   rw [hk] at e1
   have hk2:=ae hk
   clear hk
   have BE:=ae (((A0.out.setCell (p:=⟨w.heap.size+2,0,none⟩) (by show w.heap.size≤w.heap.size+2;omega) (.bool false)).setCell (p:=⟨w.heap.size+2,1,none⟩) (by show w.heap.size≤w.heap.size+2;omega) (.int .i64 0)).setCell (p:=⟨w.heap.size+2,2,none⟩) (by show w.heap.size≤w.heap.size+2;omega) (.string ⟨#[]⟩))
   go_wp2
   exact bodyPost_ret (v:=.agg #[.bool false,.int .i64 0,.string ⟨#[]⟩]) (by simp [results,Tryz.results33,go_sem,r0,r1,r2]) rfl ⟨rfl,BE.out⟩
  ·rw [if_neg hk] at hR
   subst hR
   have BE:=ae (((A0.out.setCell (p:=⟨w.heap.size+2,0,none⟩) (by show w.heap.size≤w.heap.size+2;omega) (.bool true)).setCell (p:=⟨w.heap.size+2,1,none⟩) (by show w.heap.size≤w.heap.size+2;omega) (.int .i64 x.code)).setCell (p:=⟨w.heap.size+2,2,none⟩) (by show w.heap.size≤w.heap.size+2;omega) (.string x.text))
   have hkb:(x.kind == 2)=false:=by simpa using hk
   go_upto_region 5 with fail
   go_wp2_with fail
   refine aN (fun V=>V.cell? ⟨w.heap.size,0,none⟩=some (.slice (some ⟨b,off,none⟩) n cap)∧V.cell? ⟨w.heap.size+1,3,none⟩=some (.int .i64 (p:Int))∧V.cell? ⟨b,off+p*6+2,none⟩=some (.int .i64 x.code)∧V.cell? ⟨b,off+p*6+3,none⟩=some (.string x.text)) 15 (by as_aux_lemma=>kernel_rfl) ?_
   have HS:Hid (W0.drew.cell? ⟨w.heap.size,0,none⟩=some (.slice (some ⟨b,off,none⟩) n cap)∧W0.drew.cell? ⟨w.heap.size+1,3,none⟩=some (.int .i64 (p:Int))∧W0.drew.cell? ⟨b,off+p*6+2,none⟩=some (.int .i64 x.code)∧W0.drew.cell? ⟨b,off+p*6+3,none⟩=some (.string x.text)):=⟨a0,c3,e2,e3⟩
   iterate 15
    refine aF 0 (v:=?_) rfl rfl (by as_aux_lemma=>kernel_rfl) (fun _ _ _ h=>h) rfl ?_ HS.out ?_
    rotate_left
    ·(intro wz hSw;obtain ⟨s0,s1,s2,s3⟩:=hSw;go_simp)
     (try with_reducible rfl)
    (try simp only [Act.put,nzL])
   refine aj (i:=15) rfl (by as_aux_lemma=>kernel_rfl) (fun K hK=>?_)
   go_simp
   refine hK.out _ _ (fun h=>absurd rfl h) ?_
   clear hK K HS
   (try simp only [Act.put,nzL])
   refine bc (by as_aux_lemma=>kernel_rfl) ?_ _
   go_wp2
   exact bodyPost_ret (v:=.agg #[.bool true,.int .i64 x.code,.string x.text]) (by simp [results,Tryz.results33,go_sem,r0,r1,r2]) rfl ⟨rfl,by have:=BE.out.drew;exact this⟩
end Go.Proofs.YtkophfgkcijjkaaGreatDoor.Vp
namespace Go.Proofs.YtkophfgkcijjkaaGreatDoor.Vp
open RowKit
theorem pu (S:Spc)(nm:ByteArray):((bp S nm).1=[]∧5<(bp S nm).2.code)∨∃ M e,SpcOk S∧au nm=true∧aG S 60 [] [] nm=.inl (M,e)∧bp S nm=(M,bV e):=by
 unfold bp
 split
 ·rename_i h
  split
  ·rename_i made e he
   exact .inr ⟨made,e,SpcOk.of h.1,h.2,he,rfl⟩
  ·exact .inl ⟨rfl,by show (5:Int)<6;decide⟩
  ·exact .inl ⟨rfl,by show (5:Int)<7;decide⟩
 ·exact .inl ⟨rfl,by show (5:Int)<9;decide⟩
section
variable {S:Spc}{M:List Ent}
theorem wR (hM:PG S [] M){i:Nat}{x:Ent}(hx:M[i]?=some x):aA M x.name=some x:=by
 cases h:aA M x.name with
 | none=>exact absurd rfl (cK h x (List.mem_of_getElem? hx))
 | some y =>
  obtain ⟨h1,h2⟩:=fP h
  obtain ⟨j,hj⟩:=List.getElem?_of_mem h1
  have e1:=hM.idx hx
  have e2:=hM.idx hj
  rw [h2,e1] at e2
  subst e2
  rw [hx] at hj
  exact hj.symm
theorem pZ (hM:PG S [] M){i:Nat}{x:Ent}(hx:M[i]?=some x){l:Lk}(hl:l∈x.looks):iz (dF (a8 S M)) (lkD M l)=bn M l∧((lkD M l).ask=true→0≤(lkD M l).at_∧(lkD M l).at_.toNat<M.length)∧bv (bn M l)=true:=by
 by_cases ha:l.ask=true
 ·obtain ⟨y,hy,hn,hlt⟩:=hM.asked hx hl ha
  have hT:(lkD M l).at_=((gC M l.name:Nat):Int):=by unfold lkD;simp [ha]
  have hA:(lkD M l).ask=true:=ha
  have he:=wR hM hy
  rw [hn] at he
  have hg:=hM.ents y (List.mem_of_getElem? hy)
  have hL:bn M l=dU y:=by unfold bn;rw [if_pos ha,he];rfl
  have hlen:=(List.getElem?_eq_some_iff.1 hy).1
  refine ⟨?_,fun _=>by rw [hT,Int.toNat_natCast];exact ⟨by omega,hlen⟩,by rw [hL];exact fT hg⟩
  unfold iz
  rw [hA,if_neg (by simp),hT,Int.toNat_natCast,dW hy,hL]
  show (if y.kind=2 then fl else ⟨true,y.code,y.text⟩)=dU y
  unfold dU
  rcases hg.kind with ⟨k,-⟩ | ⟨k,h2,h3,-⟩ | ⟨k,-⟩
  ·rw [if_neg (by omega)];simp [k]
  ·rw [if_pos k];simp [k,h2,h3,fl]
  ·rw [if_neg (by omega)];simp [k]
 ·have ha':l.ask=false:=by simpa using ha
  have hA:(lkD M l).ask=false:=ha'
  have hL:bn M l=⟨l.has,0,⟨#[]⟩⟩:=by unfold bn;rw [if_neg ha]
  refine ⟨?_,(fun h=>by rw [hA] at h;cases h),by rw [hL];simp only [bv,decide_eq_true_eq];exact ⟨by decide,by decide,by decide⟩⟩
  unfold iz
  rw [if_pos hA,hL]
  rfl
theorem iF {ys:List aw}(h:∀ y∈ys,bv y=true):∀ k,aZ (yL ys) k=true
 | 0=>rfl
 | k+1=>by rw [aZ,iF h k,rq h k];rfl
theorem qa (hS:SpcOk S)(hM:PG S [] M){i:Nat}{x:Ent}(hx:M[i]?=some x)(hk:x.kind=3)(k:Nat):fu (aH S M x).act (aH S M x).actN (yL ((x.looks.take k).map (bn M))) ((x.looks.take k).map (bn M)).length=bk S x.tg ((x.looks.take k).map (bn M)):=by
 have hg:=hM.ents x (List.mem_of_getElem? hx)
 have ht:x.tg<S.n1:=by
  rcases hg.kind with ⟨k,-⟩ | ⟨k,-⟩ | ⟨-,-,h⟩
  ·omega
  ·omega
  ·exact (aR h).1
 have ea:(aH S M x).actN=(S.f1 x.tg).actN:=by show cD S x=_;unfold cD;rw [if_pos hk]
 have hv:valid (aH S M x).act (S.f1 x.tg).actN=true:=hS.act _ ht
 have hl:((x.looks.take k).map (bn M)).length≤200:=by
  rw [List.length_map,List.length_take]
  have:=hg.looks
  omega
 have ho:∀ y∈(x.looks.take k).map (bn M),bv y=true:=fun y hy=>by
  obtain ⟨l,hl,rfl⟩:=List.mem_map.1 hy
  exact (pZ hM hx (List.mem_of_mem_take hl)).2.2
 unfold fu
 rw [ea,if_neg (by rw [hv];simp),if_neg (by omega),if_neg (by rw [iF ho];simp)]
 rfl
theorem lB (hS:SpcOk S)(hM:PG S [] M){i:Nat}{x:Ent}(hx:M[i]?=some x)(hk:x.kind=3):0<(aH S M x).actN∧(aH S M x).actN≤200:=by
 have hg:=hM.ents x (List.mem_of_getElem? hx)
 have ea:(aH S M x).actN=(S.f1 x.tg).actN:=by show cD S x=_;unfold cD;rw [if_pos hk]
 rw [ea]
 rcases hg.kind with ⟨k,-⟩ | ⟨k,-⟩ | ⟨-,-,h⟩
 ·omega
 ·omega
 ·have:=bR (hS.act _ (aR h).1)
  exact ⟨by omega,by omega⟩
theorem vZ (hS:SpcOk S)(hM:PG S [] M){i:Nat}(hi:i<M.length):gP (dF (a8 S M) i):=by
 have hx:M[i]?=some M[i]:=List.getElem?_eq_getElem hi
 rw [dW hx]
 refine lS hM (fun t ht=>?_) _ (List.mem_map_of_mem (List.getElem_mem hi))
 have:=(bR (hS.act t ht)).2.2
 unfold bh
 omega
theorem tG (hM:PG S [] M){e:Ent}(he:e∈M):(bV e).code≤5∧(e.kind=1∧(bV e).text=e.text∨e.kind=2∧(bV e).code=4∨e.kind=3∧(bV e).code=e.code∧(bV e).text=e.text):=by
 have hg:=hM.ents e he
 have hc:=hg.code
 unfold bV
 rcases hg.kind with ⟨k,-⟩ | ⟨k,-⟩ | ⟨k,-⟩
 ·rw [if_neg (by omega)];exact ⟨hc.2,.inl ⟨k,rfl⟩⟩
 ·rw [if_pos k];exact ⟨by show (4:Int)≤5;decide,.inr (.inl ⟨k,rfl⟩)⟩
 ·rw [if_neg (by omega)];exact ⟨hc.2,.inr (.inr ⟨k,rfl,rfl⟩)⟩
theorem kN (hM:PG S [] M){x:Ent}(hx:x∈M){q:Nat}(hq:q<x.looks.length):x.kind=3:=by
 rcases (hM.ents x hx).kind with ⟨-,-,h,-⟩ | ⟨-,-,-,h,-⟩ | ⟨k,-⟩
 ·rw [h] at hq;cases hq
 ·rw [h] at hq;cases hq
 ·exact k
theorem wj (hS:SpcOk S)(hM:PG S [] M)(hR:∀ x∈M,Rn S M x){i q:Nat}{x:Ent}(hx:M[i]?=some x){l:Lk}(hl:x.looks[q]?=some l):∃ cd tx st,fu (aH S M x).act (aH S M x).actN (yL ((x.looks.take q).map (bn M))) q=⟨false,cd,tx,l.ask,l.name,st⟩:=by
 have hm:=List.mem_of_getElem? hx
 have hlt:=(List.getElem?_eq_some_iff.1 hl).1
 have hk:=kN hM hm hlt
 have hn:=qa hS hM hx hk q
 obtain ⟨h1,h2,h3⟩:=(hR x hm).go hk q l hl
 have e:((x.looks.take q).map (bn M)).length=q:=by rw [List.length_map,List.length_take,Nat.min_eq_left (by omega)]
 rw [e] at hn
 rw [hn]
 generalize bk S x.tg ((x.looks.take q).map (bn M))=T at h1 h2 h3
 obtain ⟨o,cd,tx,ak,nm,st⟩:=T
 simp only at h1 h2 h3
 subst h1 h2 h3
 exact ⟨cd,tx,st,rfl⟩
theorem vd (hS:SpcOk S)(hM:PG S [] M)(hR:∀ x∈M,Rn S M x){i:Nat}{x:Ent}(hx:M[i]?=some x)(hk:x.kind=3):∃ ak nm st,fu (aH S M x).act (aH S M x).actN (yL ((x.looks.take x.looks.length).map (bn M))) x.looks.length=⟨true,x.code,x.text,ak,nm,st⟩:=by
 have hm:=List.mem_of_getElem? hx
 have hn:=qa hS hM hx hk x.looks.length
 obtain ⟨h1,h2,h3⟩:=(hR x hm).fin hk
 rw [List.take_length] at hn ⊢
 rw [List.length_map] at hn
 rw [hn]
 generalize bk S x.tg (x.looks.map (bn M))=T at h1 h2 h3
 obtain ⟨o,cd,tx,ak,nm,st⟩:=T
 simp only at h1 h2 h3
 subst h1 h2 h3
 exact ⟨ak,nm,st,rfl⟩
theorem tH (hM:PG S [] M){j k:Nat}{x:Ent}(hx:M[k]?=some x)(hj:j<k):((dF (a8 S M) j).name.toList == x.name.toList)=false:=by
 obtain ⟨hk,e⟩:=List.getElem?_eq_some_iff.1 hx
 have hne:=List.pairwise_iff_getElem.1 hM.nod j k (by omega) hk hj
 rw [dW (List.getElem?_eq_getElem (show j<M.length by omega))]
 rw [e] at hne
 cases hb:((aH S M M[j]).name.toList == x.name.toList) with
 | false=>rfl
 | true=>exact absurd (bytes_beq hb) hne
theorem ve (x:Ent){q:Nat}{l:Lk}(hl:x.looks[q]?=some l):(x.looks.take (q+1)).map (bn M)=(x.looks.take q).map (bn M)++[bn M l]:=by
 rw [List.take_add_one,hl,List.map_append]
 rfl
end
theorem vf {w:World}{base size n n' c:Nat}{e:TypeId}{a:Option Addr}{xs:List Value}(h:w.ownsRow base e size (.slice a n c) n' xs):n≤c:=by
 rcases h.2 with ⟨hv,h0⟩ | ⟨g,cap,cur,hv,hb,hg,hc,_⟩
 ·simp only [Value.slice.injEq] at hv
  omega
 ·simp only [Value.slice.injEq] at hv
  omega
end Go.Proofs.YtkophfgkcijjkaaGreatDoor.Vp
