import Derived.Deep.RegionHeld
open Option renaming none->Y,some->N
open Go renaming World->E,Value->QB
open Bool renaming false->D,true->QC
namespace Go.Proofs.YtkdimgejdocbbaaGreatDoor.Vp
section
variable {P:Program}{ops:Array Oper}{QM:Exit->Act->E->Prop}{md:Region.Mode}{S:E->Prop}
theorem xI {i:Nat}{b:Oper}{v:QB}{k:Nat}{l:Array Bool}{a:Act}{w:E}(hi:ops.toList[i]?=N b)(f:Region.noSelect ops=QC)(m:Region.free md ops l i=QC)(n:(Region.ready md ops l).contains i=QC)
  (g:∀ c a w,QM (.panic c) (a.put b.dst v) w->QM (.panic c) a w) (j:Region.wanted b (yielded ops a.tmps)=QC) (o:∀ w,S w->(execOp a.eval b).run P w=.ok (.value v) w) (d:S w)
  (h:wpAnyH P md ops QM S k (l.setIfInBounds i QC) (a.put b.dst v) w):wpAnyH P md ops QM S (k+1) l a w:=by
 rw[Array.getElem?_toList] at hi;exact wpAnyH_take hi f m n g (.inl ⟨j,fun w d=>o w d⟩) d h
def nxS:List Bool->Nat->Option Nat
 | [],_=>Y
 | true :: l,j=>nxS l (j+1)
 | false :: _,j=>N j
theorem bS (j:Nat){i:Nat}{b:Oper}{v:QB}{k:Nat}{l:Array Bool}{a:Act}{w:E}(_:nxS (l.toList.drop j) j=N i)(hi:ops.toList[i]?=N b)(d:(Region.noSelect ops && Region.free md ops l i && (Region.ready md ops l).contains i)=QC)
  (g:∀ c a w,QM (.panic c) (a.put b.dst v) w->QM (.panic c) a w) (m:Region.wanted b (yielded ops a.tmps)=QC) (n:∀ w,S w->(execOp a.eval b).run P w=.ok (.value v) w) (f:S w)
  (h:wpAnyH P md ops QM S k (l.setIfInBounds i QC) (a.put b.dst v) w):wpAnyH P md ops QM S (k+1) l a w:=by
 simp only[Bool.and_eq_true] at d;exact xI hi d.1.1 d.1.2 d.2 g m n f h
theorem bN {i:Nat}{o:Oper}{k:Nat}{l:Array Bool}{a:Act}{w:E}(d:ops.toList[i]?=N o)(m:Region.ready md ops l=[i])
  (h:∀ b:Act->E->Prop,Shut (∀ a w,S w->wpAnyH P md ops QM S k (l.setIfInBounds i QC) a w->b a w)->if Region.wanted o (yielded ops a.tmps)=QC then Oper.wp P o a w b QM else b (a.put o.dst undef) w) :
  wpAnyH P md ops QM S (k+1) l a w:=by
 rw[Array.getElem?_toList] at d;exact wpAnyH_ready m (List.cons_ne_nil _ _) (AllReadyH.cons d (fun b j=>h b (fun a w g f=>j a w g (fun _=>f))) AllReadyH.nil)
theorem oV (j:Nat){i:Nat}{o:Oper}{k:Nat}{l:Array Bool}{a:Act}{w:E}(_:nxS (l.toList.drop j) j=N i)(d:ops.toList[i]?=N o)(f:Region.ready md ops l=[i])
  (h:∀ b:Act->E->Prop,Shut (∀ a w,S w->wpAnyH P md ops QM S k (l.setIfInBounds i QC) a w->b a w)->if Region.wanted o (yielded ops a.tmps)=QC then Oper.wp P o a w b QM else b (a.put o.dst undef) w) :
  wpAnyH P md ops QM S (k+1) l a w:=bN d f h
end
end Go.Proofs.YtkdimgejdocbbaaGreatDoor.Vp
namespace Go.Proofs.YtkdimgejdocbbaaGreatDoor.Ca
section
variable {P:Program}{ops:Array Oper}{QM:Exit->Act->E->Prop}{md:Region.Mode}{S:E->Prop}{n:Nat}
def dx (P:Program)(md:Region.Mode)(ops:Array Oper)(QM:Exit->Act->E->Prop)(S:E->Prop)(n:Nat):Nat->Array Bool->Act->E->Prop
 | 0,l,a,w=>Region.ready md ops l=[]/\QM .normal a w
 | k+1,l,a,w=>(Region.ready md ops l=[]->QM .normal a w)/\∀ i∈Region.ready md ops l,wpOp P ops QM i (fun d b=>(i≠n->S b)/\dx P md ops QM S n k (l.setIfInBounds i QC) d b) a w
theorem rn:∀ (k:Nat) (l:Array Bool) (a:Act) (w:E),dx P md ops QM S n k l a w->wpAny P md ops QM k l a w
 | 0,_,_,_,h=>h
 | k+1,_,_,_,h=>⟨h.1,fun i hi=>wpOp_mono (fun d b x=>rn k _ d b x.2) (h.2 i hi)⟩
def waitsFor (md:Region.Mode)(ops:Array Oper)(n i:Nat):Bool:=match ops[n]? with
 | some o=>o.after.any fun e=>Region.binds md e && e.on == i
 | none=>D
theorem xJ {i:Nat}{o:Oper}(h:waitsFor md ops n i=QC)(b:ops[n]?=N o)(f:∀ e∈o.after,Region.binds md e=QC->e.on≠i):False:=by unfold waitsFor at h;simp only[b] at h;obtain⟨e,d,h2⟩:=Array.any_eq_true'.1 h;simp only[Bool.and_eq_true,beq_iff_eq] at h2;exact f e d h2.1 h2.2
theorem vI {i:Nat}{h:Oper}{v:QB}(hi:ops[i]?=N h)(r:∀ (j:Nat) (o:Oper) s b,ops[j]?=N o->o.op≠.select s b)(R:∀ c a w,QM (.panic c) (a.put h.dst v) w->QM (.panic c) a w)(O:waitsFor md ops n i=QC):∀ (k:Nat) (l:Array Bool) (a:Act) (w:E),(∀ j f,ops[j]?=N f->j≠i->l.getD j QC=D->(∀ e∈f.after,Region.binds md e=QC->e.on≠i)->h.apart ops f=QC) ->
   i∈Region.ready md ops l->YieldsIf P ops S h v a->S w->dx P md ops QM S n k (l.setIfInBounds i QC) (a.put h.dst v) w->dx P md ops QM S n (k+1) l a w:=by
 intro k;induction k with
 | zero =>
  intro l a w _ q u p H;refine⟨fun e=>absurd q (by rw[e];exact List.not_mem_nil),fun j t=>?_⟩;rcases Decidable.em (j=i) with rfl | d
  ·exact u.wpOp hi p ⟨fun _=>p,H⟩
  ·exact absurd (ready_mono t d) (by rw[H.1];exact List.not_mem_nil)
 | succ k L =>
  intro l a w QO q u p H;refine⟨fun e=>absurd q (by rw[e];exact List.not_mem_nil),fun j t=>?_⟩;rcases Decidable.em (j=i) with rfl | d
  ·exact u.wpOp hi p ⟨fun _=>p,H⟩
  ·obtain⟨QP,f,g,A⟩:=mem_ready.1 t
   have z:∀ e∈f.after,Region.binds md e=QC->e.on≠i:=fun e V hb x=>by
    have h1:=A e V hb;have QQ:=(mem_ready.1 q).1;rw[x] at h1;rcases Nat.lt_or_ge i l.size with B | B
    ·simp[B] at QQ h1
     rw[QQ] at h1;cases h1
    ·simp[Array.getElem?_eq_none B] at h1
   have y:j≠n:=fun e=>xJ O (e ▸ g) z;refine wpOp_mono (fun QJ M x=>⟨fun _=>x.2.1 y,L _ QJ M (fun m QK QL G K QN=>QO m QK QL G ?_ QN) (ready_mono q (Ne.symm d)) x.1 (x.2.1 y) ?_⟩) (wpOp_putIf g (QO j f g d QP z) (fun s b=>r i h s b hi) (fun s b=>r j f s b g) R u (H.2 j (ready_mono t d)))
   ·rcases Decidable.em (j=m) with rfl | C
    ·exact QP
    ·rwa[getD_set_ne QC C] at K
   ·rw[Array.setIfInBounds_comm _ _ d]
    exact x.2.2
theorem eK {i:Nat}{b:Oper}{v:QB}{k:Nat}{l:Array Bool}{a:Act}{w:E}(hi:ops.toList[i]?=N b)(d:Region.noSelect ops=QC)(o:Region.free md ops l i=QC)(p:(Region.ready md ops l).contains i=QC)(g:waitsFor md ops n i=QC)
  (j:∀ c a w,QM (.panic c) (a.put b.dst v) w->QM (.panic c) a w) (m:b.guard=Y) (q:∀ w,S w->(execOp a.eval b).run P w=.ok (.value v) w) (f:S w)
  (h:dx P md ops QM S n k (l.setIfInBounds i QC) (a.put b.dst v) w):dx P md ops QM S n (k+1) l a w:=by
 rw[Array.getElem?_toList] at hi;exact vI hi (Region.noSelect_spec d) j g k l a w (Region.free_spec hi o) (by simpa using p) (.inl ⟨by simp[Region.wanted,m],q⟩) f h
def nxA:List Bool->Nat->Option Nat
 | [],_=>Y
 | true :: l,j=>nxA l (j+1)
 | false :: _,j=>N j
theorem bw (j:Nat){i:Nat}{b:Oper}{v:QB}{k:Nat}{l:Array Bool}{a:Act}{w:E}(_:nxA (l.toList.drop j) j=N i)(hi:ops.toList[i]?=N b)(d:(Region.noSelect ops && Region.free md ops l i && (Region.ready md ops l).contains i && waitsFor md ops n i)=QC)
  (g:∀ c a w,QM (.panic c) (a.put b.dst v) w->QM (.panic c) a w) (m:b.guard=Y) (o:∀ w,S w->(execOp a.eval b).run P w=.ok (.value v) w) (f:S w)
  (h:dx P md ops QM S n k (l.setIfInBounds i QC) (a.put b.dst v) w):dx P md ops QM S n (k+1) l a w:=by
 simp only[Bool.and_eq_true] at d;exact eK hi d.1.1.1 d.1.1.2 d.1.2 d.2 g m o f h
theorem ar {i:Nat}{o:Oper}{k:Nat}{l:Array Bool}{a:Act}{w:E}(d:ops.toList[i]?=N o)(g:Region.ready md ops l=[i])
  (h:∀ b:Act->E->Prop,Shut (∀ a w,(i≠n->S w)->dx P md ops QM S n k (l.setIfInBounds i QC) a w->b a w)->if Region.wanted o (yielded ops a.tmps)=QC then Oper.wp P o a w b QM else b (a.put o.dst undef) w) :
  dx P md ops QM S n (k+1) l a w:=by
 rw[Array.getElem?_toList] at d;refine⟨fun e=>absurd e (by rw[g];exact List.cons_ne_nil _ _),fun j f=>?_⟩;rw[g] at f;obtain rfl:=List.mem_singleton.1 f;exact wpOp_step d fun b q=>h b (fun a w p m=>q a w ⟨p,m⟩)
theorem df (j:Nat){i:Nat}{o:Oper}{k:Nat}{l:Array Bool}{a:Act}{w:E}(_:nxA (l.toList.drop j) j=N i)(d:ops.toList[i]?=N o)(f:Region.ready md ops l=[i])
  (h:∀ b:Act->E->Prop,Shut (∀ a w,(i≠n->S w)->dx P md ops QM S n k (l.setIfInBounds i QC) a w->b a w)->if Region.wanted o (yielded ops a.tmps)=QC then Oper.wp P o a w b QM else b (a.put o.dst undef) w) :
  dx P md ops QM S n (k+1) l a w:=ar d f h
theorem bJ {l:Array Bool}{a:Act}{w:E}(b:Region.ready md ops l=[])(h:QM .normal a w)(k:Nat):dx P md ops QM S n k l a w:=by
 cases k with
 | zero=>exact⟨b,h⟩
 | succ k=>exact⟨fun _=>h,by rw[b];intro i hi;cases hi⟩
theorem bm {id:Nat}{a:Act}{w:E}(S:E->Prop)(n:Nat)(b:P.follows .mixedOrders=QC)(h:dx P .any ops QM S n ops.size (Array.replicate ops.size D) a w.drew):(Code.region id ops QC).wp P QM a w :=
 wp_region_any b (rn _ _ _ _ h)
end
section
variable {P:Program}{ops:Array Oper}{QM:Exit->Act->E->Prop}{md:Region.Mode}{S:E->Prop}{n:Nat}
theorem zy {i j:Nat}{f d:Oper}{k:Nat}{l:Array Bool}{a:Act}{w:E}(hi:ops.toList[i]?=N f)(q:ops.toList[j]?=N d)(r:Region.ready md ops l=[i,j])
  (h1:∀ b:Act->E->Prop,Shut (∀ a w,(i≠n->S w)->dx P md ops QM S n k (l.setIfInBounds i QC) a w->b a w)->if Region.wanted f (yielded ops a.tmps)=QC then Oper.wp P f a w b QM else b (a.put f.dst undef) w)
  (h2:∀ b:Act->E->Prop,Shut (∀ a w,(j≠n->S w)->dx P md ops QM S n k (l.setIfInBounds j QC) a w->b a w)->if Region.wanted d (yielded ops a.tmps)=QC then Oper.wp P d a w b QM else b (a.put d.dst undef) w) :
  dx P md ops QM S n (k+1) l a w:=by
 rw[Array.getElem?_toList] at hi q;refine⟨fun e=>absurd e (by rw[r];exact List.cons_ne_nil _ _),fun m g=>?_⟩;rw[r] at g;rcases List.mem_cons.1 g with rfl | g
 ·exact wpOp_step hi fun b o=>h1 b (fun a w h p=>o a w ⟨h,p⟩)
 ·obtain rfl:=List.mem_singleton.1 g
  exact wpOp_step q fun b o=>h2 b (fun a w h p=>o a w ⟨h,p⟩)
end
end Go.Proofs.YtkdimgejdocbbaaGreatDoor.Ca
namespace Go.Proofs.YtkdimgejdocbbaaGreatDoor.Vp
section
variable {P:Program}{ops:Array Oper}{QM:Exit->Act->E->Prop}{md:Region.Mode}{S:E->Prop}
theorem iQ {i j:Nat}{f d:Oper}{k:Nat}{l:Array Bool}{a:Act}{w:E}(hi:ops.toList[i]?=N f)(n:ops.toList[j]?=N d)(o:Region.ready md ops l=[i,j])
  (h1:∀ b:Act->E->Prop,Shut (∀ a w,S w->wpAnyH P md ops QM S k (l.setIfInBounds i QC) a w->b a w)->if Region.wanted f (yielded ops a.tmps)=QC then Oper.wp P f a w b QM else b (a.put f.dst undef) w)
  (h2:∀ b:Act->E->Prop,Shut (∀ a w,S w->wpAnyH P md ops QM S k (l.setIfInBounds j QC) a w->b a w)->if Region.wanted d (yielded ops a.tmps)=QC then Oper.wp P d a w b QM else b (a.put d.dst undef) w) :
  wpAnyH P md ops QM S (k+1) l a w:=by
 rw[Array.getElem?_toList] at hi n;exact wpAnyH_ready o (List.cons_ne_nil _ _) (AllReadyH.cons hi (fun b h=>h1 b (fun a w g m=>h a w g (fun _=>m))) (AllReadyH.cons n (fun b h=>h2 b (fun a w g m=>h a w g (fun _=>m))) AllReadyH.nil))
end
end Go.Proofs.YtkdimgejdocbbaaGreatDoor.Vp
