import Derived.Deep.RegionHeld
open Option renaming none->Z,some->Q
open Go renaming World->E,Value->QB
open Bool renaming false->D,true->QC
namespace Go.Proofs.YtkdimgejdocbbaaGreatDoor.Vp
section
variable {P:Program}{ops:Array Oper}{QL:Exit->Act->E->Prop}{md:Region.Mode}{S:E->Prop}
theorem xI {i:Nat}{b:Oper}{v:QB}{k:Nat}{l:Array Bool}{a:Act}{w:E}(hi:ops.toList[i]?=Q b)(g:Region.noSelect ops=QC)(j:Region.free md ops l i=QC)(m:(Region.ready md ops l).contains i=QC)
  (n:∀ c a w,QL (.panic c) (a.put b.dst v) w->QL (.panic c) a w) (f:Region.wanted b (yielded ops a.tmps)=QC) (o:∀ w,S w->(execOp a.eval b).run P w=.ok (.value v) w) (d:S w)
  (h:wpAnyH P md ops QL S k (l.setIfInBounds i QC) (a.put b.dst v) w):wpAnyH P md ops QL S (k+1) l a w:=by
 rw[Array.getElem?_toList] at hi;exact wpAnyH_take hi g j m n (.inl ⟨f,fun w d=>o w d⟩) d h
def nxS:List Bool->Nat->Option Nat
 | [],_=>Z
 | true :: l,j=>nxS l (j+1)
 | false :: _,j=>Q j
theorem bS (j:Nat){i:Nat}{b:Oper}{v:QB}{k:Nat}{l:Array Bool}{a:Act}{w:E}(_:nxS (l.toList.drop j) j=Q i)(hi:ops.toList[i]?=Q b)(d:(Region.noSelect ops && Region.free md ops l i && (Region.ready md ops l).contains i)=QC)
  (m:∀ c a w,QL (.panic c) (a.put b.dst v) w->QL (.panic c) a w) (f:Region.wanted b (yielded ops a.tmps)=QC) (n:∀ w,S w->(execOp a.eval b).run P w=.ok (.value v) w) (g:S w)
  (h:wpAnyH P md ops QL S k (l.setIfInBounds i QC) (a.put b.dst v) w):wpAnyH P md ops QL S (k+1) l a w:=by
 simp only[Bool.and_eq_true] at d;exact xI hi d.1.1 d.1.2 d.2 m f n g h
theorem bN {i:Nat}{o:Oper}{k:Nat}{l:Array Bool}{a:Act}{w:E}(d:ops.toList[i]?=Q o)(m:Region.ready md ops l=[i])
  (h:∀ b:Act->E->Prop,Shut (∀ a w,S w->wpAnyH P md ops QL S k (l.setIfInBounds i QC) a w->b a w)->if Region.wanted o (yielded ops a.tmps)=QC then Oper.wp P o a w b QL else b (a.put o.dst undef) w) :
  wpAnyH P md ops QL S (k+1) l a w:=by
 rw[Array.getElem?_toList] at d;exact wpAnyH_ready m (List.cons_ne_nil _ _) (AllReadyH.cons d (fun b j=>h b (fun a w g f=>j a w g (fun _=>f))) AllReadyH.nil)
theorem oV (j:Nat){i:Nat}{o:Oper}{k:Nat}{l:Array Bool}{a:Act}{w:E}(_:nxS (l.toList.drop j) j=Q i)(f:ops.toList[i]?=Q o)(d:Region.ready md ops l=[i])
  (h:∀ b:Act->E->Prop,Shut (∀ a w,S w->wpAnyH P md ops QL S k (l.setIfInBounds i QC) a w->b a w)->if Region.wanted o (yielded ops a.tmps)=QC then Oper.wp P o a w b QL else b (a.put o.dst undef) w) :
  wpAnyH P md ops QL S (k+1) l a w:=bN f d h
end
end Go.Proofs.YtkdimgejdocbbaaGreatDoor.Vp
namespace Go.Proofs.YtkdimgejdocbbaaGreatDoor.Ca
section
variable {P:Program}{ops:Array Oper}{QL:Exit->Act->E->Prop}{md:Region.Mode}{S:E->Prop}{n:Nat}
def dx (P:Program)(md:Region.Mode)(ops:Array Oper)(QL:Exit->Act->E->Prop)(S:E->Prop)(n:Nat):Nat->Array Bool->Act->E->Prop
 | 0,l,a,w=>Region.ready md ops l=[]/\QL .normal a w
 | k+1,l,a,w=>(Region.ready md ops l=[]->QL .normal a w)/\∀ i∈Region.ready md ops l,wpOp P ops QL i (fun d b=>(i≠n->S b)/\dx P md ops QL S n k (l.setIfInBounds i QC) d b) a w
theorem rn:∀ (k:Nat) (l:Array Bool) (a:Act) (w:E),dx P md ops QL S n k l a w->wpAny P md ops QL k l a w
 | 0,_,_,_,h=>h
 | k+1,_,_,_,h=>⟨h.1,fun i hi=>wpOp_mono (fun b d x=>rn k _ b d x.2) (h.2 i hi)⟩
def waitsFor (md:Region.Mode)(ops:Array Oper)(n i:Nat):Bool:=match ops[n]? with
 | some o=>o.after.any fun e=>Region.binds md e && e.on == i
 | none=>D
theorem xJ {i:Nat}{o:Oper}(h:waitsFor md ops n i=QC)(d:ops[n]?=Q o)(f:∀ e∈o.after,Region.binds md e=QC->e.on≠i):False:=by unfold waitsFor at h;simp only[d] at h;obtain⟨e,b,h2⟩:=Array.any_eq_true'.1 h;simp only[Bool.and_eq_true,beq_iff_eq] at h2;exact f e b h2.1 h2.2
theorem vI {i:Nat}{h:Oper}{v:QB}(hi:ops[i]?=Q h)(p:∀ (j:Nat) (o:Oper) s b,ops[j]?=Q o->o.op≠.select s b)(QM:∀ c a w,QL (.panic c) (a.put h.dst v) w->QL (.panic c) a w)(QK:waitsFor md ops n i=QC):∀ (k:Nat) (l:Array Bool) (a:Act) (w:E),(∀ j f,ops[j]?=Q f->j≠i->l.getD j QC=D->(∀ e∈f.after,Region.binds md e=QC->e.on≠i)->h.apart ops f=QC) ->
   i∈Region.ready md ops l->YieldsIf P ops S h v a->S w->dx P md ops QL S n k (l.setIfInBounds i QC) (a.put h.dst v) w->dx P md ops QL S n (k+1) l a w:=by
 intro k;induction k with
 | zero =>
  intro l a w _ q u r H;refine⟨fun e=>absurd q (by rw[e];exact List.not_mem_nil),fun j t=>?_⟩;rcases Decidable.em (j=i) with rfl | d
  ·exact u.wpOp hi r ⟨fun _=>r,H⟩
  ·exact absurd (ready_mono t d) (by rw[H.1];exact List.not_mem_nil)
 | succ k O =>
  intro l a w QQ q u r H;refine⟨fun e=>absurd q (by rw[e];exact List.not_mem_nil),fun j t=>?_⟩;rcases Decidable.em (j=i) with rfl | d
  ·exact u.wpOp hi r ⟨fun _=>r,H⟩
  ·obtain⟨QO,f,g,A⟩:=mem_ready.1 t
   have y:∀ e∈f.after,Region.binds md e=QC->e.on≠i:=fun e L hb x=>by
    have h1:=A e L hb;have K:=(mem_ready.1 q).1;rw[x] at h1;rcases Nat.lt_or_ge i l.size with B | B
    ·simp[B] at K h1
     rw[K] at h1;cases h1
    ·simp[Array.getElem?_eq_none B] at h1
   have z:j≠n:=fun e=>xJ QK (e ▸ g) y;refine wpOp_mono (fun V R x=>⟨fun _=>x.2.1 z,O _ V R (fun m M QJ C G QP=>QQ m M QJ C ?_ QP) (ready_mono q (Ne.symm d)) x.1 (x.2.1 z) ?_⟩) (wpOp_putIf g (QQ j f g d QO y) (fun s b=>p i h s b hi) (fun s b=>p j f s b g) QM u (H.2 j (ready_mono t d)))
   ·rcases Decidable.em (j=m) with rfl | QN
    ·exact QO
    ·rwa[getD_set_ne QC QN] at G
   ·rw[Array.setIfInBounds_comm _ _ d]
    exact x.2.2
theorem eK {i:Nat}{b:Oper}{v:QB}{k:Nat}{l:Array Bool}{a:Act}{w:E}(hi:ops.toList[i]?=Q b)(f:Region.noSelect ops=QC)(g:Region.free md ops l i=QC)(m:(Region.ready md ops l).contains i=QC)(j:waitsFor md ops n i=QC)
  (p:∀ c a w,QL (.panic c) (a.put b.dst v) w->QL (.panic c) a w) (d:b.guard=Z) (q:∀ w,S w->(execOp a.eval b).run P w=.ok (.value v) w) (o:S w)
  (h:dx P md ops QL S n k (l.setIfInBounds i QC) (a.put b.dst v) w):dx P md ops QL S n (k+1) l a w:=by
 rw[Array.getElem?_toList] at hi;exact vI hi (Region.noSelect_spec f) p j k l a w (Region.free_spec hi g) (by simpa using m) (.inl ⟨by simp[Region.wanted,d],q⟩) o h
def nxA:List Bool->Nat->Option Nat
 | [],_=>Z
 | true :: l,j=>nxA l (j+1)
 | false :: _,j=>Q j
theorem bw (j:Nat){i:Nat}{d:Oper}{v:QB}{k:Nat}{l:Array Bool}{a:Act}{w:E}(_:nxA (l.toList.drop j) j=Q i)(hi:ops.toList[i]?=Q d)(b:(Region.noSelect ops && Region.free md ops l i && (Region.ready md ops l).contains i && waitsFor md ops n i)=QC)
  (m:∀ c a w,QL (.panic c) (a.put d.dst v) w->QL (.panic c) a w) (f:d.guard=Z) (o:∀ w,S w->(execOp a.eval d).run P w=.ok (.value v) w) (g:S w)
  (h:dx P md ops QL S n k (l.setIfInBounds i QC) (a.put d.dst v) w):dx P md ops QL S n (k+1) l a w:=by
 simp only[Bool.and_eq_true] at b;exact eK hi b.1.1.1 b.1.1.2 b.1.2 b.2 m f o g h
theorem ar {i:Nat}{o:Oper}{k:Nat}{l:Array Bool}{a:Act}{w:E}(d:ops.toList[i]?=Q o)(g:Region.ready md ops l=[i])
  (h:∀ b:Act->E->Prop,Shut (∀ a w,(i≠n->S w)->dx P md ops QL S n k (l.setIfInBounds i QC) a w->b a w)->if Region.wanted o (yielded ops a.tmps)=QC then Oper.wp P o a w b QL else b (a.put o.dst undef) w) :
  dx P md ops QL S n (k+1) l a w:=by
 rw[Array.getElem?_toList] at d;refine⟨fun e=>absurd e (by rw[g];exact List.cons_ne_nil _ _),fun j f=>?_⟩;rw[g] at f;obtain rfl:=List.mem_singleton.1 f;exact wpOp_step d fun b q=>h b (fun a w p m=>q a w ⟨p,m⟩)
theorem df (j:Nat){i:Nat}{o:Oper}{k:Nat}{l:Array Bool}{a:Act}{w:E}(_:nxA (l.toList.drop j) j=Q i)(f:ops.toList[i]?=Q o)(d:Region.ready md ops l=[i])
  (h:∀ b:Act->E->Prop,Shut (∀ a w,(i≠n->S w)->dx P md ops QL S n k (l.setIfInBounds i QC) a w->b a w)->if Region.wanted o (yielded ops a.tmps)=QC then Oper.wp P o a w b QL else b (a.put o.dst undef) w) :
  dx P md ops QL S n (k+1) l a w:=ar f d h
theorem bJ {l:Array Bool}{a:Act}{w:E}(b:Region.ready md ops l=[])(h:QL .normal a w)(k:Nat):dx P md ops QL S n k l a w:=by
 cases k with
 | zero=>exact⟨b,h⟩
 | succ k=>exact⟨fun _=>h,by rw[b];intro i hi;cases hi⟩
theorem bm {id:Nat}{a:Act}{w:E}(S:E->Prop)(n:Nat)(b:P.follows .mixedOrders=QC)(h:dx P .any ops QL S n ops.size (Array.replicate ops.size D) a w.drew):(Code.region id ops QC).wp P QL a w :=
 wp_region_any b (rn _ _ _ _ h)
end
section
variable {P:Program}{ops:Array Oper}{QL:Exit->Act->E->Prop}{md:Region.Mode}{S:E->Prop}{n:Nat}
theorem zy {i j:Nat}{f d:Oper}{k:Nat}{l:Array Bool}{a:Act}{w:E}(hi:ops.toList[i]?=Q f)(q:ops.toList[j]?=Q d)(r:Region.ready md ops l=[i,j])
  (h1:∀ b:Act->E->Prop,Shut (∀ a w,(i≠n->S w)->dx P md ops QL S n k (l.setIfInBounds i QC) a w->b a w)->if Region.wanted f (yielded ops a.tmps)=QC then Oper.wp P f a w b QL else b (a.put f.dst undef) w)
  (h2:∀ b:Act->E->Prop,Shut (∀ a w,(j≠n->S w)->dx P md ops QL S n k (l.setIfInBounds j QC) a w->b a w)->if Region.wanted d (yielded ops a.tmps)=QC then Oper.wp P d a w b QL else b (a.put d.dst undef) w) :
  dx P md ops QL S n (k+1) l a w:=by
 rw[Array.getElem?_toList] at hi q;refine⟨fun e=>absurd e (by rw[r];exact List.cons_ne_nil _ _),fun m g=>?_⟩;rw[r] at g;rcases List.mem_cons.1 g with rfl | g
 ·exact wpOp_step hi fun b h=>h1 b (fun a w o p=>h a w ⟨o,p⟩)
 ·obtain rfl:=List.mem_singleton.1 g
  exact wpOp_step q fun b h=>h2 b (fun a w o p=>h a w ⟨o,p⟩)
end
end Go.Proofs.YtkdimgejdocbbaaGreatDoor.Ca
namespace Go.Proofs.YtkdimgejdocbbaaGreatDoor.Vp
section
variable {P:Program}{ops:Array Oper}{QL:Exit->Act->E->Prop}{md:Region.Mode}{S:E->Prop}
theorem iQ {i j:Nat}{f d:Oper}{k:Nat}{l:Array Bool}{a:Act}{w:E}(hi:ops.toList[i]?=Q f)(n:ops.toList[j]?=Q d)(o:Region.ready md ops l=[i,j])
  (h1:∀ b:Act->E->Prop,Shut (∀ a w,S w->wpAnyH P md ops QL S k (l.setIfInBounds i QC) a w->b a w)->if Region.wanted f (yielded ops a.tmps)=QC then Oper.wp P f a w b QL else b (a.put f.dst undef) w)
  (h2:∀ b:Act->E->Prop,Shut (∀ a w,S w->wpAnyH P md ops QL S k (l.setIfInBounds j QC) a w->b a w)->if Region.wanted d (yielded ops a.tmps)=QC then Oper.wp P d a w b QL else b (a.put d.dst undef) w) :
  wpAnyH P md ops QL S (k+1) l a w:=by
 rw[Array.getElem?_toList] at hi n;exact wpAnyH_ready o (List.cons_ne_nil _ _) (AllReadyH.cons hi (fun b g=>h1 b (fun a w h m=>g a w h (fun _=>m))) (AllReadyH.cons n (fun b g=>h2 b (fun a w h m=>g a w h (fun _=>m))) AllReadyH.nil))
end
end Go.Proofs.YtkdimgejdocbbaaGreatDoor.Vp
