import Derived.Deep.RegionHeld
namespace Go.Proofs.YtkophfgkcijjkaaGreatDoor.Vp
section
variable {P:Program}{ops:Array Oper}{Q:Exit->Act->World->Prop}{md:Region.Mode}{S:World->Prop}
theorem tS {i:Nat}{b:Oper}{v:Value}{k:Nat}{l:Array Bool}{a:Act}{w:World}(hi:ops.toList[i]?=some b)(g:Region.noSelect ops=true)(o:Region.free md ops l i=true)(j:(Region.ready md ops l).contains i=true)
  (n:∀ c a w,Q (.panic c) (a.put b.dst v) w->Q (.panic c) a w) (f:Region.wanted b (yielded ops a.tmps)=true) (m:∀ w,S w->(execOp a.eval b).run P w=.ok (.value v) w) (d:S w)
  (h:wpAnyH P md ops Q S k (l.setIfInBounds i true) (a.put b.dst v) w):wpAnyH P md ops Q S (k+1) l a w:=by
 rw[Array.getElem?_toList] at hi;exact wpAnyH_take hi g o j n (.inl ⟨f,fun w d=>m w d⟩) d h
def nxS:List Bool->Nat->Option Nat
 | [],_=>none
 | true :: l,j=>nxS l (j+1)
 | false :: _,j=>some j
theorem aF (j:Nat){i:Nat}{b:Oper}{v:Value}{k:Nat}{l:Array Bool}{a:Act}{w:World}(_:nxS (l.toList.drop j) j=some i)(hi:ops.toList[i]?=some b)(d:(Region.noSelect ops && Region.free md ops l i && (Region.ready md ops l).contains i)=true)
  (n:∀ c a w,Q (.panic c) (a.put b.dst v) w->Q (.panic c) a w) (g:Region.wanted b (yielded ops a.tmps)=true) (m:∀ w,S w->(execOp a.eval b).run P w=.ok (.value v) w) (f:S w)
  (h:wpAnyH P md ops Q S k (l.setIfInBounds i true) (a.put b.dst v) w):wpAnyH P md ops Q S (k+1) l a w:=by
 simp only[Bool.and_eq_true] at d;exact tS hi d.1.1 d.1.2 d.2 n g m f h
theorem aK {i:Nat}{o:Oper}{k:Nat}{l:Array Bool}{a:Act}{w:World}(c:ops.toList[i]?=some o)(g:Region.ready md ops l=[i])
  (h:∀ b:Act->World->Prop,Shut (∀ a w,S w->wpAnyH P md ops Q S k (l.setIfInBounds i true) a w->b a w)->if Region.wanted o (yielded ops a.tmps)=true then Oper.wp P o a w b Q else b (a.put o.dst undef) w) :
  wpAnyH P md ops Q S (k+1) l a w:=by
 rw[Array.getElem?_toList] at c;exact wpAnyH_ready g (List.cons_ne_nil _ _) (AllReadyH.cons c (fun b d=>h b (fun a w f j=>d.out a w f (fun _=>j))) AllReadyH.nil)
end
end Go.Proofs.YtkophfgkcijjkaaGreatDoor.Vp
namespace Go.Proofs.YtkophfgkcijjkaaGreatDoor.Ca
section
variable {P:Program}{ops:Array Oper}{Q:Exit->Act->World->Prop}{md:Region.Mode}{S:World->Prop}{n:Nat}
def du (P:Program)(md:Region.Mode)(ops:Array Oper)(Q:Exit->Act->World->Prop)(S:World->Prop)(n:Nat):Nat->Array Bool->Act->World->Prop
 | 0,l,a,w=>Region.ready md ops l=[]/\Q .normal a w
 | k+1,l,a,w=>(Region.ready md ops l=[]->Q .normal a w)/\∀ i∈Region.ready md ops l,wpOp P ops Q i (fun c b=>(i≠n->S b)/\du P md ops Q S n k (l.setIfInBounds i true) c b) a w
theorem oI:∀ (k:Nat) (l:Array Bool) (a:Act) (w:World),du P md ops Q S n k l a w->wpAny P md ops Q k l a w
 | 0,_,_,_,h=>h
 | k+1,_,_,_,h=>⟨h.1,fun i hi=>wpOp_mono (fun c b x=>oI k _ c b x.2) (h.2 i hi)⟩
def waitsFor (md:Region.Mode)(ops:Array Oper)(n i:Nat):Bool:=match ops[n]? with
 | some o=>o.after.any fun e=>Region.binds md e && e.on == i
 | none=>false
theorem tT {i:Nat}{o:Oper}(h:waitsFor md ops n i=true)(c:ops[n]?=some o)(hn:∀ e∈o.after,Region.binds md e=true->e.on≠i):False:=by unfold waitsFor at h;simp only[c] at h;obtain⟨e,d,b⟩:=Array.any_eq_true'.1 h;simp only[Bool.and_eq_true,beq_iff_eq] at b;exact hn e d b.1 b.2
theorem sw {i:Nat}{h:Oper}{v:Value}(hi:ops[i]?=some h)(r:∀ (j:Nat) (o:Oper) t b,ops[j]?=some o->o.op≠.select t b)(W:∀ c a w,Q (.panic c) (a.put h.dst v) w->Q (.panic c) a w)(U:waitsFor md ops n i=true):∀ (k:Nat) (l:Array Bool) (a:Act) (w:World),(∀ j f,ops[j]?=some f->j≠i->l.getD j true=false->(∀ e∈f.after,Region.binds md e=true->e.on≠i)->h.apart ops f=true) ->
   i∈Region.ready md ops l->YieldsIf P ops S h v a->S w->du P md ops Q S n k (l.setIfInBounds i true) (a.put h.dst v) w->du P md ops Q S n (k+1) l a w:=by
 intro k;induction k with
 | zero =>
  intro l a w _ s y p H;refine⟨fun e=>absurd s (by rw[e];exact List.not_mem_nil),fun j u=>?_⟩;rcases Decidable.em (j=i) with rfl | d
  ·exact y.wpOp hi p ⟨fun _=>p,H⟩
  ·exact absurd (ready_mono u d) (by rw[H.1];exact List.not_mem_nil)
 | succ k O =>
  intro l a w L s y p H;refine⟨fun e=>absurd s (by rw[e];exact List.not_mem_nil),fun j u=>?_⟩;rcases Decidable.em (j=i) with rfl | d
  ·exact y.wpOp hi p ⟨fun _=>p,H⟩
  ·obtain⟨K,f,g,C⟩:=mem_ready.1 u
   have A:∀ e∈f.after,Region.binds md e=true->e.on≠i:=fun e M hb x=>by
    have q:=C e M hb;have E:=(mem_ready.1 s).1;rw[x] at q;rcases Nat.lt_or_ge i l.size with B | B
    ·simp[B] at E q
     rw[E] at q;cases q
    ·simp[Array.getElem?_eq_none B] at q
   have z:j≠n:=fun e=>tT U (e ▸ g) A;refine wpOp_mono (fun V R x=>⟨fun _=>x.2.1 z,O _ V R (fun m T N J D G=>L m T N J ?_ G) (ready_mono s (Ne.symm d)) x.1 (x.2.1 z) ?_⟩) (wpOp_putIf g (L j f g d K A) (fun t b=>r i h t b hi) (fun t b=>r j f t b g) W y (H.2 j (ready_mono u d)))
   ·rcases Decidable.em (j=m) with rfl | I
    ·exact K
    ·rwa[getD_set_ne true I] at D
   ·rw[Array.setIfInBounds_comm _ _ d]
    exact x.2.2
theorem ig {i:Nat}{b:Oper}{v:Value}{k:Nat}{l:Array Bool}{a:Act}{w:World}(hi:ops.toList[i]?=some b)(g:Region.noSelect ops=true)(q:Region.free md ops l i=true)(m:(Region.ready md ops l).contains i=true)(j:waitsFor md ops n i=true)
  (p:∀ c a w,Q (.panic c) (a.put b.dst v) w->Q (.panic c) a w) (f:b.guard=none) (o:∀ w,S w->(execOp a.eval b).run P w=.ok (.value v) w) (d:S w)
  (h:du P md ops Q S n k (l.setIfInBounds i true) (a.put b.dst v) w):du P md ops Q S n (k+1) l a w:=by
 rw[Array.getElem?_toList] at hi;exact sw hi (Region.noSelect_spec g) p j k l a w (Region.free_spec hi q) (by simpa using m) (.inl ⟨by simp[Region.wanted,f],o⟩) d h
def nxA:List Bool->Nat->Option Nat
 | [],_=>none
 | true :: l,j=>nxA l (j+1)
 | false :: _,j=>some j
theorem aM (j:Nat){i:Nat}{d:Oper}{v:Value}{k:Nat}{l:Array Bool}{a:Act}{w:World}(_:nxA (l.toList.drop j) j=some i)(hi:ops.toList[i]?=some d)(b:(Region.noSelect ops && Region.free md ops l i && (Region.ready md ops l).contains i && waitsFor md ops n i)=true)
  (o:∀ c a w,Q (.panic c) (a.put d.dst v) w->Q (.panic c) a w) (g:d.guard=none) (m:∀ w,S w->(execOp a.eval d).run P w=.ok (.value v) w) (f:S w)
  (h:du P md ops Q S n k (l.setIfInBounds i true) (a.put d.dst v) w):du P md ops Q S n (k+1) l a w:=by
 simp only[Bool.and_eq_true] at b;exact ig hi b.1.1.1 b.1.1.2 b.1.2 b.2 o g m f h
theorem aj {i:Nat}{o:Oper}{k:Nat}{l:Array Bool}{a:Act}{w:World}(c:ops.toList[i]?=some o)(f:Region.ready md ops l=[i])
  (h:∀ b:Act->World->Prop,Shut (∀ a w,(i≠n->S w)->du P md ops Q S n k (l.setIfInBounds i true) a w->b a w)->if Region.wanted o (yielded ops a.tmps)=true then Oper.wp P o a w b Q else b (a.put o.dst undef) w) :
  du P md ops Q S n (k+1) l a w:=by
 rw[Array.getElem?_toList] at c;refine⟨fun e=>absurd e (by rw[f];exact List.cons_ne_nil _ _),fun j d=>?_⟩;rw[f] at d;obtain rfl:=List.mem_singleton.1 d;exact wpOp_step c fun b g=>h b (fun a w m p=>g a w ⟨m,p⟩)
theorem cB (j:Nat){i:Nat}{o:Oper}{k:Nat}{l:Array Bool}{a:Act}{w:World}(_:nxA (l.toList.drop j) j=some i)(c:ops.toList[i]?=some o)(d:Region.ready md ops l=[i])
  (h:∀ b:Act->World->Prop,Shut (∀ a w,(i≠n->S w)->du P md ops Q S n k (l.setIfInBounds i true) a w->b a w)->if Region.wanted o (yielded ops a.tmps)=true then Oper.wp P o a w b Q else b (a.put o.dst undef) w) :
  du P md ops Q S n (k+1) l a w:=aj c d h
theorem aP {l:Array Bool}{a:Act}{w:World}(b:Region.ready md ops l=[])(h:Q .normal a w)(k:Nat):du P md ops Q S n k l a w:=by
 cases k with
 | zero=>exact⟨b,h⟩
 | succ k=>exact⟨fun _=>h,by rw[b];intro i hi;cases hi⟩
theorem aJ {id:Nat}{a:Act}{w:World}(S:World->Prop)(n:Nat)(b:P.follows .mixedOrders=true)(h:du P .any ops Q S n ops.size (Array.replicate ops.size false) a w.drew):(Code.region id ops true).wp P Q a w :=
 wp_region_any b (oI _ _ _ _ h)
end
section
variable {P:Program}{ops:Array Oper}{Q:Exit->Act->World->Prop}{md:Region.Mode}{S:World->Prop}{n:Nat}
theorem oJ {i j:Nat}{f c:Oper}{k:Nat}{l:Array Bool}{a:Act}{w:World}(hi:ops.toList[i]?=some f)(q:ops.toList[j]?=some c)(p:Region.ready md ops l=[i,j])
  (s:∀ b:Act->World->Prop,Shut (∀ a w,(i≠n->S w)->du P md ops Q S n k (l.setIfInBounds i true) a w->b a w)->if Region.wanted f (yielded ops a.tmps)=true then Oper.wp P f a w b Q else b (a.put f.dst undef) w)
  (r:∀ b:Act->World->Prop,Shut (∀ a w,(j≠n->S w)->du P md ops Q S n k (l.setIfInBounds j true) a w->b a w)->if Region.wanted c (yielded ops a.tmps)=true then Oper.wp P c a w b Q else b (a.put c.dst undef) w) :
  du P md ops Q S n (k+1) l a w:=by
 rw[Array.getElem?_toList] at hi q;refine⟨fun e=>absurd e (by rw[p];exact List.cons_ne_nil _ _),fun m d=>?_⟩;rw[p] at d;rcases List.mem_cons.1 d with rfl | d
 ·exact wpOp_step hi fun b g=>s b (fun a w h o=>g a w ⟨h,o⟩)
 ·obtain rfl:=List.mem_singleton.1 d
  exact wpOp_step q fun b g=>r b (fun a w h o=>g a w ⟨h,o⟩)
end
end Go.Proofs.YtkophfgkcijjkaaGreatDoor.Ca
namespace Go.Proofs.YtkophfgkcijjkaaGreatDoor.Vp
section
variable {P:Program}{ops:Array Oper}{Q:Exit->Act->World->Prop}{md:Region.Mode}{S:World->Prop}
end
end Go.Proofs.YtkophfgkcijjkaaGreatDoor.Vp
