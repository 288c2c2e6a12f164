import Derived.Deep.RegionHeld
open Option renaming none->Z,some->N
open Go renaming World->H,Value->QS
open Bool renaming false->QQ,true->QR
namespace Go.Proofs.YtamacmnikdejeaaGreatDoor.Vp
section
variable {P:Program}{ops:Array Oper}{Q0:Exit->Act->H->Prop}{md:Region.Mode}{S:H->Prop}
theorem yS {i:Nat}{b:Oper}{v:QS}{k:Nat}{l:Array Bool}{a:Act}{w:H}(hi:ops.toList[i]?=N b)(g:Region.noSelect ops=QR)(p:Region.free md ops l i=QR)(n:(Region.ready md ops l).contains i=QR)
  (j:∀ c a w,Q0 (.panic c) (a.put b.dst v) w->Q0 (.panic c) a w) (m:Region.wanted b (yielded ops a.tmps)=QR) (o:∀ w,S w->(execOp a.eval b).run P w=.ok (.value v) w) (f:S w)
  (h:wpAnyH P md ops Q0 S k (l.setIfInBounds i QR) (a.put b.dst v) w):wpAnyH P md ops Q0 S (k+1) l a w:=by
 rw[Array.getElem?_toList] at hi;exact wpAnyH_take hi g p n j (.inl ⟨m,fun w f=>o w f⟩) f h
def nxS:List Bool->Nat->Option Nat
 | [],_=>Z
 | true :: l,j=>nxS l (j+1)
 | false :: _,j=>N j
theorem aV (j:Nat){i:Nat}{b:Oper}{v:QS}{k:Nat}{l:Array Bool}{a:Act}{w:H}(_:nxS (l.toList.drop j) j=N i)(hi:ops.toList[i]?=N b)(f:(Region.noSelect ops && Region.free md ops l i && (Region.ready md ops l).contains i)=QR)
  (g:∀ c a w,Q0 (.panic c) (a.put b.dst v) w->Q0 (.panic c) a w) (m:Region.wanted b (yielded ops a.tmps)=QR) (n:∀ w,S w->(execOp a.eval b).run P w=.ok (.value v) w) (o:S w)
  (h:wpAnyH P md ops Q0 S k (l.setIfInBounds i QR) (a.put b.dst v) w):wpAnyH P md ops Q0 S (k+1) l a w:=by
 simp only[Bool.and_eq_true] at f;exact yS hi f.1.1 f.1.2 f.2 g m n o h
theorem aD {i:Nat}{o:Oper}{k:Nat}{l:Array Bool}{a:Act}{w:H}(c:ops.toList[i]?=N o)(j:Region.ready md ops l=[i])
  (h:∀ b:Act->H->Prop,Shut (∀ a w,S w->wpAnyH P md ops Q0 S k (l.setIfInBounds i QR) a w->b a w)->if Region.wanted o (yielded ops a.tmps)=QR then Oper.wp P o a w b Q0 else b (a.put o.dst undef) w) :
  wpAnyH P md ops Q0 S (k+1) l a w:=by
 rw[Array.getElem?_toList] at c;exact wpAnyH_ready j (List.cons_ne_nil _ _) (AllReadyH.cons c (fun b f=>h b (fun a w m g=>f a w m (fun _=>g))) AllReadyH.nil)
theorem qi (j:Nat){i:Nat}{o:Oper}{k:Nat}{l:Array Bool}{a:Act}{w:H}(_:nxS (l.toList.drop j) j=N i)(c:ops.toList[i]?=N o)(f:Region.ready md ops l=[i])
  (h:∀ b:Act->H->Prop,Shut (∀ a w,S w->wpAnyH P md ops Q0 S k (l.setIfInBounds i QR) a w->b a w)->if Region.wanted o (yielded ops a.tmps)=QR then Oper.wp P o a w b Q0 else b (a.put o.dst undef) w) :
  wpAnyH P md ops Q0 S (k+1) l a w:=aD c f h
end
end Go.Proofs.YtamacmnikdejeaaGreatDoor.Vp
namespace Go.Proofs.YtamacmnikdejeaaGreatDoor.Ca
section
variable {P:Program}{ops:Array Oper}{Q0:Exit->Act->H->Prop}{md:Region.Mode}{S:H->Prop}{n:Nat}
def dR (P:Program)(md:Region.Mode)(ops:Array Oper)(Q0:Exit->Act->H->Prop)(S:H->Prop)(n:Nat):Nat->Array Bool->Act->H->Prop
 | 0,l,a,w=>Region.ready md ops l=[]/\Q0 .normal a w
 | k+1,l,a,w=>(Region.ready md ops l=[]->Q0 .normal a w)/\∀ i∈Region.ready md ops l,wpOp P ops Q0 i (fun c b=>(i≠n->S b)/\dR P md ops Q0 S n k (l.setIfInBounds i QR) c b) a w
theorem sF:∀ (k:Nat) (l:Array Bool) (a:Act) (w:H),dR P md ops Q0 S n k l a w->wpAny P md ops Q0 k l a w
 | 0,_,_,_,h=>h
 | k+1,_,_,_,h=>⟨h.1,fun i hi=>wpOp_mono (fun b c x=>sF k _ b c x.2) (h.2 i hi)⟩
def waitsFor (md:Region.Mode)(ops:Array Oper)(n i:Nat):Bool:=match ops[n]? with
 | some o=>o.after.any fun e=>Region.binds md e && e.on == i
 | none=>QQ
theorem yT {i:Nat}{o:Oper}(h:waitsFor md ops n i=QR)(b:ops[n]?=N o)(hn:∀ e∈o.after,Region.binds md e=QR->e.on≠i):False:=by unfold waitsFor at h;simp only[b] at h;obtain⟨e,c,h2⟩:=Array.any_eq_true'.1 h;simp only[Bool.and_eq_true,beq_iff_eq] at h2;exact hn e c h2.1 h2.2
theorem wX {i:Nat}{p:Oper}{v:QS}(hi:ops[i]?=N p)(q:∀ (j:Nat) (o:Oper) s b,ops[j]?=N o->o.op≠.select s b)(QY:∀ c a w,Q0 (.panic c) (a.put p.dst v) w->Q0 (.panic c) a w)(V:waitsFor md ops n i=QR):∀ (k:Nat) (l:Array Bool) (a:Act) (w:H),(∀ j g,ops[j]?=N g->j≠i->l.getD j QR=QQ->(∀ e∈g.after,Region.binds md e=QR->e.on≠i)->p.apart ops g=QR) ->
   i∈Region.ready md ops l->YieldsIf P ops S p v a->S w->dR P md ops Q0 S n k (l.setIfInBounds i QR) (a.put p.dst v) w->dR P md ops Q0 S n (k+1) l a w:=by
 intro k;induction k with
 | zero =>
  intro l a w _ r u t ZB;refine⟨fun e=>absurd r (by rw[e];exact List.not_mem_nil),fun j y=>?_⟩;rcases Decidable.em (j=i) with rfl | f
  ·exact u.wpOp hi t ⟨fun _=>t,ZB⟩
  ·exact absurd (ready_mono y f) (by rw[ZB.1];exact List.not_mem_nil)
 | succ k Q2 =>
  intro l a w G r u t ZB;refine⟨fun e=>absurd r (by rw[e];exact List.not_mem_nil),fun j y=>?_⟩;rcases Decidable.em (j=i) with rfl | f
  ·exact u.wpOp hi t ⟨fun _=>t,ZB⟩
  ·obtain⟨F,g,h,C⟩:=mem_ready.1 y
   have z:∀ e∈g.after,Region.binds md e=QR->e.on≠i:=fun e L hb x=>by
    have h1:=C e L hb;have K:=(mem_ready.1 r).1;rw[x] at h1;rcases Nat.lt_or_ge i l.size with B | B
    ·simp[B] at K h1
     rw[K] at h1;cases h1
    ·simp[Array.getElem?_eq_none B] at h1
   have A:j≠n:=fun e=>yT V (e ▸ h) z;refine wpOp_mono (fun O M x=>⟨fun _=>x.2.1 A,Q2 _ O M (fun m QZ R Q9 ZA E=>G m QZ R Q9 ?_ E) (ready_mono r (Ne.symm f)) x.1 (x.2.1 A) ?_⟩) (wpOp_putIf h (G j g h f F z) (fun s b=>q i p s b hi) (fun s b=>q j g s b h) QY u (ZB.2 j (ready_mono y f)))
   ·rcases Decidable.em (j=m) with rfl | D
    ·exact F
    ·rwa[getD_set_ne QR D] at ZA
   ·rw[Array.setIfInBounds_comm _ _ f]
    exact x.2.2
theorem gD {i:Nat}{b:Oper}{v:QS}{k:Nat}{l:Array Bool}{a:Act}{w:H}(hi:ops.toList[i]?=N b)(f:Region.noSelect ops=QR)(q:Region.free md ops l i=QR)(m:(Region.ready md ops l).contains i=QR)(p:waitsFor md ops n i=QR)
  (g:∀ c a w,Q0 (.panic c) (a.put b.dst v) w->Q0 (.panic c) a w) (j:b.guard=Z) (o:∀ w,S w->(execOp a.eval b).run P w=.ok (.value v) w) (r:S w)
  (h:dR P md ops Q0 S n k (l.setIfInBounds i QR) (a.put b.dst v) w):dR P md ops Q0 S n (k+1) l a w:=by
 rw[Array.getElem?_toList] at hi;exact wX hi (Region.noSelect_spec f) g p k l a w (Region.free_spec hi q) (by simpa using m) (.inl ⟨by simp[Region.wanted,j],o⟩) r h
def nxA:List Bool->Nat->Option Nat
 | [],_=>Z
 | true :: l,j=>nxA l (j+1)
 | false :: _,j=>N j
theorem aO (j:Nat){i:Nat}{b:Oper}{v:QS}{k:Nat}{l:Array Bool}{a:Act}{w:H}(_:nxA (l.toList.drop j) j=N i)(hi:ops.toList[i]?=N b)(f:(Region.noSelect ops && Region.free md ops l i && (Region.ready md ops l).contains i && waitsFor md ops n i)=QR)
  (g:∀ c a w,Q0 (.panic c) (a.put b.dst v) w->Q0 (.panic c) a w) (m:b.guard=Z) (o:∀ w,S w->(execOp a.eval b).run P w=.ok (.value v) w) (p:S w)
  (h:dR P md ops Q0 S n k (l.setIfInBounds i QR) (a.put b.dst v) w):dR P md ops Q0 S n (k+1) l a w:=by
 simp only[Bool.and_eq_true] at f;exact gD hi f.1.1.1 f.1.1.2 f.1.2 f.2 g m o p h
theorem af {i:Nat}{o:Oper}{k:Nat}{l:Array Bool}{a:Act}{w:H}(c:ops.toList[i]?=N o)(f:Region.ready md ops l=[i])
  (h:∀ b:Act->H->Prop,Shut (∀ a w,(i≠n->S w)->dR P md ops Q0 S n k (l.setIfInBounds i QR) a w->b a w)->if Region.wanted o (yielded ops a.tmps)=QR then Oper.wp P o a w b Q0 else b (a.put o.dst undef) w) :
  dR P md ops Q0 S n (k+1) l a w:=by
 rw[Array.getElem?_toList] at c;refine⟨fun e=>absurd e (by rw[f];exact List.cons_ne_nil _ _),fun j g=>?_⟩;rw[f] at g;obtain rfl:=List.mem_singleton.1 g;exact wpOp_step c fun b m=>h b (fun a w q p=>m a w ⟨q,p⟩)
theorem cG (j:Nat){i:Nat}{o:Oper}{k:Nat}{l:Array Bool}{a:Act}{w:H}(_:nxA (l.toList.drop j) j=N i)(c:ops.toList[i]?=N o)(f:Region.ready md ops l=[i])
  (h:∀ b:Act->H->Prop,Shut (∀ a w,(i≠n->S w)->dR P md ops Q0 S n k (l.setIfInBounds i QR) a w->b a w)->if Region.wanted o (yielded ops a.tmps)=QR then Oper.wp P o a w b Q0 else b (a.put o.dst undef) w) :
  dR P md ops Q0 S n (k+1) l a w:=af c f h
theorem aN {l:Array Bool}{a:Act}{w:H}(b:Region.ready md ops l=[])(h:Q0 .normal a w)(k:Nat):dR P md ops Q0 S n k l a w:=by
 cases k with
 | zero=>exact⟨b,h⟩
 | succ k=>exact⟨fun _=>h,by rw[b];intro i hi;cases hi⟩
theorem aH {id:Nat}{a:Act}{w:H}(S:H->Prop)(n:Nat)(b:P.follows .mixedOrders=QR)(h:dR P .any ops Q0 S n ops.size (Array.replicate ops.size QQ) a w.drew):(Code.region id ops QR).wp P Q0 a w :=
 wp_region_any b (sF _ _ _ _ h)
end
section
variable {P:Program}{ops:Array Oper}{Q0:Exit->Act->H->Prop}{md:Region.Mode}{S:H->Prop}{n:Nat}
theorem ox {i j:Nat}{f g:Oper}{k:Nat}{l:Array Bool}{a:Act}{w:H}(hi:ops.toList[i]?=N f)(r:ops.toList[j]?=N g)(q:Region.ready md ops l=[i,j])
  (h1:∀ b:Act->H->Prop,Shut (∀ a w,(i≠n->S w)->dR P md ops Q0 S n k (l.setIfInBounds i QR) a w->b a w)->if Region.wanted f (yielded ops a.tmps)=QR then Oper.wp P f a w b Q0 else b (a.put f.dst undef) w)
  (h2:∀ b:Act->H->Prop,Shut (∀ a w,(j≠n->S w)->dR P md ops Q0 S n k (l.setIfInBounds j QR) a w->b a w)->if Region.wanted g (yielded ops a.tmps)=QR then Oper.wp P g a w b Q0 else b (a.put g.dst undef) w) :
  dR P md ops Q0 S n (k+1) l a w:=by
 rw[Array.getElem?_toList] at hi r;refine⟨fun e=>absurd e (by rw[q];exact List.cons_ne_nil _ _),fun m c=>?_⟩;rw[q] at c;rcases List.mem_cons.1 c with rfl | c
 ·exact wpOp_step hi fun b h=>h1 b (fun a w p o=>h a w ⟨p,o⟩)
 ·obtain rfl:=List.mem_singleton.1 c
  exact wpOp_step r fun b h=>h2 b (fun a w p o=>h a w ⟨p,o⟩)
end
end Go.Proofs.YtamacmnikdejeaaGreatDoor.Ca
namespace Go.Proofs.YtamacmnikdejeaaGreatDoor.Vp
section
variable {P:Program}{ops:Array Oper}{Q0:Exit->Act->H->Prop}{md:Region.Mode}{S:H->Prop}
theorem eP {i j:Nat}{c f:Oper}{k:Nat}{l:Array Bool}{a:Act}{w:H}(hi:ops.toList[i]?=N c)(n:ops.toList[j]?=N f)(o:Region.ready md ops l=[i,j])
  (h1:∀ b:Act->H->Prop,Shut (∀ a w,S w->wpAnyH P md ops Q0 S k (l.setIfInBounds i QR) a w->b a w)->if Region.wanted c (yielded ops a.tmps)=QR then Oper.wp P c a w b Q0 else b (a.put c.dst undef) w)
  (h2:∀ b:Act->H->Prop,Shut (∀ a w,S w->wpAnyH P md ops Q0 S k (l.setIfInBounds j QR) a w->b a w)->if Region.wanted f (yielded ops a.tmps)=QR then Oper.wp P f a w b Q0 else b (a.put f.dst undef) w) :
  wpAnyH P md ops Q0 S (k+1) l a w:=by
 rw[Array.getElem?_toList] at hi n;exact wpAnyH_ready o (List.cons_ne_nil _ _) (AllReadyH.cons hi (fun b g=>h1 b (fun a w m h=>g a w m (fun _=>h))) (AllReadyH.cons n (fun b g=>h2 b (fun a w m h=>g a w m (fun _=>h))) AllReadyH.nil))
theorem o7 {i j m:Nat}{h n o:Oper}{k:Nat}{l:Array Bool}{a:Act}{w:H}(hi:ops.toList[i]?=N h)(q:ops.toList[j]?=N n)(p:ops.toList[m]?=N o)(s:Region.ready md ops l=[i,j,m])
  (h1:∀ b:Act->H->Prop,Shut (∀ a w,S w->wpAnyH P md ops Q0 S k (l.setIfInBounds i QR) a w->b a w)->if Region.wanted h (yielded ops a.tmps)=QR then Oper.wp P h a w b Q0 else b (a.put h.dst undef) w)
  (h2:∀ b:Act->H->Prop,Shut (∀ a w,S w->wpAnyH P md ops Q0 S k (l.setIfInBounds j QR) a w->b a w)->if Region.wanted n (yielded ops a.tmps)=QR then Oper.wp P n a w b Q0 else b (a.put n.dst undef) w)
  (r:∀ b:Act->H->Prop,Shut (∀ a w,S w->wpAnyH P md ops Q0 S k (l.setIfInBounds m QR) a w->b a w)->if Region.wanted o (yielded ops a.tmps)=QR then Oper.wp P o a w b Q0 else b (a.put o.dst undef) w) :
  wpAnyH P md ops Q0 S (k+1) l a w:=by
 rw[Array.getElem?_toList] at hi q p;exact wpAnyH_ready s (List.cons_ne_nil _ _) (AllReadyH.cons hi (fun b c=>h1 b (fun a w g f=>c a w g (fun _=>f))) (AllReadyH.cons q (fun b c=>h2 b (fun a w g f=>c a w g (fun _=>f))) (AllReadyH.cons p (fun b c=>r b (fun a w g f=>c a w g (fun _=>f))) AllReadyH.nil)))
end
end Go.Proofs.YtamacmnikdejeaaGreatDoor.Vp
