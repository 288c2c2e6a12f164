import Derived.Deep.RegionHeld
open Option renaming none->Z,some->T
open Go renaming World->G,Value->QE
open Bool renaming false->QB,true->QD
namespace Go.Proofs.YtamacmnikdejeaaGreatDoor.Vp
section
variable {P:Program}{ops:Array Oper}{QM:Exit->Act->G->Prop}{md:Region.Mode}{S:G->Prop}
theorem xO {i:Nat}{b:Oper}{v:QE}{k:Nat}{l:Array Bool}{a:Act}{w:G}(hi:ops.toList[i]?=T b)(g:Region.noSelect ops=QD)(j:Region.free md ops l i=QD)(m:(Region.ready md ops l).contains i=QD)
  (p:∀ c a w,QM (.panic c) (a.put b.dst v) w->QM (.panic c) a w) (o:Region.wanted b (yielded ops a.tmps)=QD) (n:∀ w,S w->(execOp a.eval b).run P w=.ok (.value v) w) (f:S w)
  (h:wpAnyH P md ops QM S k (l.setIfInBounds i QD) (a.put b.dst v) w):wpAnyH P md ops QM S (k+1) l a w:=by
 rw[Array.getElem?_toList] at hi;exact wpAnyH_take hi g j m p (.inl ⟨o,fun w f=>n w f⟩) f h
def nxS:List Bool->Nat->Option Nat
 | [],_=>Z
 | true :: l,j=>nxS l (j+1)
 | false :: _,j=>T j
theorem bB (j:Nat){i:Nat}{b:Oper}{v:QE}{k:Nat}{l:Array Bool}{a:Act}{w:G}(_:nxS (l.toList.drop j) j=T i)(hi:ops.toList[i]?=T b)(f:(Region.noSelect ops && Region.free md ops l i && (Region.ready md ops l).contains i)=QD)
  (n:∀ c a w,QM (.panic c) (a.put b.dst v) w->QM (.panic c) a w) (m:Region.wanted b (yielded ops a.tmps)=QD) (g:∀ w,S w->(execOp a.eval b).run P w=.ok (.value v) w) (o:S w)
  (h:wpAnyH P md ops QM S k (l.setIfInBounds i QD) (a.put b.dst v) w):wpAnyH P md ops QM S (k+1) l a w:=by
 simp only[Bool.and_eq_true] at f;exact xO hi f.1.1 f.1.2 f.2 n m g o h
theorem aR {i:Nat}{o:Oper}{k:Nat}{l:Array Bool}{a:Act}{w:G}(f:ops.toList[i]?=T o)(j:Region.ready md ops l=[i])
  (h:∀ b:Act->G->Prop,Shut (∀ a w,S w->wpAnyH P md ops QM S k (l.setIfInBounds i QD) a w->b a w)->if Region.wanted o (yielded ops a.tmps)=QD then Oper.wp P o a w b QM else b (a.put o.dst undef) w) :
  wpAnyH P md ops QM S (k+1) l a w:=by
 rw[Array.getElem?_toList] at f;exact wpAnyH_ready j (List.cons_ne_nil _ _) (AllReadyH.cons f (fun b g=>h b (fun a w n m=>g a w n (fun _=>m))) AllReadyH.nil)
theorem Cf (j:Nat){i:Nat}{o:Oper}{k:Nat}{l:Array Bool}{a:Act}{w:G}(_:nxS (l.toList.drop j) j=T i)(g:ops.toList[i]?=T o)(f:Region.ready md ops l=[i])
  (h:∀ b:Act->G->Prop,Shut (∀ a w,S w->wpAnyH P md ops QM S k (l.setIfInBounds i QD) a w->b a w)->if Region.wanted o (yielded ops a.tmps)=QD then Oper.wp P o a w b QM else b (a.put o.dst undef) w) :
  wpAnyH P md ops QM S (k+1) l a w:=aR g f h
end
end Go.Proofs.YtamacmnikdejeaaGreatDoor.Vp
namespace Go.Proofs.YtamacmnikdejeaaGreatDoor.Ca
section
variable {P:Program}{ops:Array Oper}{QM:Exit->Act->G->Prop}{md:Region.Mode}{S:G->Prop}{n:Nat}
def dB (P:Program)(md:Region.Mode)(ops:Array Oper)(QM:Exit->Act->G->Prop)(S:G->Prop)(n:Nat):Nat->Array Bool->Act->G->Prop
 | 0,l,a,w=>Region.ready md ops l=[]/\QM .normal a w
 | k+1,l,a,w=>(Region.ready md ops l=[]->QM .normal a w)/\∀ i∈Region.ready md ops l,wpOp P ops QM i (fun f b=>(i≠n->S b)/\dB P md ops QM S n k (l.setIfInBounds i QD) f b) a w
theorem rU:∀ (k:Nat) (l:Array Bool) (a:Act) (w:G),dB P md ops QM S n k l a w->wpAny P md ops QM k l a w
 | 0,_,_,_,h=>h
 | k+1,_,_,_,h=>⟨h.1,fun i hi=>wpOp_mono (fun b f x=>rU k _ b f x.2) (h.2 i hi)⟩
def waitsFor (md:Region.Mode)(ops:Array Oper)(n i:Nat):Bool:=match ops[n]? with
 | some o=>o.after.any fun e=>Region.binds md e && e.on == i
 | none=>QB
theorem xP {i:Nat}{o:Oper}(h:waitsFor md ops n i=QD)(f:ops[n]?=T o)(hn:∀ e∈o.after,Region.binds md e=QD->e.on≠i):False:=by unfold waitsFor at h;simp only[f] at h;obtain⟨e,b,h2⟩:=Array.any_eq_true'.1 h;simp only[Bool.and_eq_true,beq_iff_eq] at h2;exact hn e b h2.1 h2.2
theorem vP {i:Nat}{p:Oper}{v:QE}(hi:ops[i]?=T p)(q:∀ (j:Nat) (o:Oper) s b,ops[j]?=T o->o.op≠.select s b)(V:∀ c a w,QM (.panic c) (a.put p.dst v) w->QM (.panic c) a w)(QL:waitsFor md ops n i=QD):∀ (k:Nat) (l:Array Bool) (a:Act) (w:G),(∀ j g,ops[j]?=T g->j≠i->l.getD j QD=QB->(∀ e∈g.after,Region.binds md e=QD->e.on≠i)->p.apart ops g=QD) ->
   i∈Region.ready md ops l->YieldsIf P ops S p v a->S w->dB P md ops QM S n k (l.setIfInBounds i QD) (a.put p.dst v) w->dB P md ops QM S n (k+1) l a w:=by
 intro k;induction k with
 | zero =>
  intro l a w _ r y t H;refine⟨fun e=>absurd r (by rw[e];exact List.not_mem_nil),fun j u=>?_⟩;rcases Decidable.em (j=i) with rfl | f
  ·exact y.wpOp hi t ⟨fun _=>t,H⟩
  ·exact absurd (ready_mono u f) (by rw[H.1];exact List.not_mem_nil)
 | succ k O =>
  intro l a w QP r y t H;refine⟨fun e=>absurd r (by rw[e];exact List.not_mem_nil),fun j u=>?_⟩;rcases Decidable.em (j=i) with rfl | f
  ·exact y.wpOp hi t ⟨fun _=>t,H⟩
  ·obtain⟨E,g,h,C⟩:=mem_ready.1 u
   have z:∀ e∈g.after,Region.binds md e=QD->e.on≠i:=fun e QK hb x=>by
    have h1:=C e QK hb;have D:=(mem_ready.1 r).1;rw[x] at h1;rcases Nat.lt_or_ge i l.size with B | B
    ·simp[B] at D h1
     rw[D] at h1;cases h1
    ·simp[Array.getElem?_eq_none B] at h1
   have A:j≠n:=fun e=>xP QL (e ▸ h) z;refine wpOp_mono (fun R W x=>⟨fun _=>x.2.1 A,O _ R W (fun m QN M QO K QR=>QP m QN M QO ?_ QR) (ready_mono r (Ne.symm f)) x.1 (x.2.1 A) ?_⟩) (wpOp_putIf h (QP j g h f E z) (fun s b=>q i p s b hi) (fun s b=>q j g s b h) V y (H.2 j (ready_mono u f)))
   ·rcases Decidable.em (j=m) with rfl | L
    ·exact E
    ·rwa[getD_set_ne QD L] at K
   ·rw[Array.setIfInBounds_comm _ _ f]
    exact x.2.2
theorem gS {i:Nat}{b:Oper}{v:QE}{k:Nat}{l:Array Bool}{a:Act}{w:G}(hi:ops.toList[i]?=T b)(f:Region.noSelect ops=QD)(g:Region.free md ops l i=QD)(j:(Region.ready md ops l).contains i=QD)(p:waitsFor md ops n i=QD)
  (q:∀ c a w,QM (.panic c) (a.put b.dst v) w->QM (.panic c) a w) (o:b.guard=Z) (m:∀ w,S w->(execOp a.eval b).run P w=.ok (.value v) w) (r:S w)
  (h:dB P md ops QM S n k (l.setIfInBounds i QD) (a.put b.dst v) w):dB P md ops QM S n (k+1) l a w:=by
 rw[Array.getElem?_toList] at hi;exact vP hi (Region.noSelect_spec f) q p k l a w (Region.free_spec hi g) (by simpa using j) (.inl ⟨by simp[Region.wanted,o],m⟩) r h
def nxA:List Bool->Nat->Option Nat
 | [],_=>Z
 | true :: l,j=>nxA l (j+1)
 | false :: _,j=>T j
theorem aL (j:Nat){i:Nat}{b:Oper}{v:QE}{k:Nat}{l:Array Bool}{a:Act}{w:G}(_:nxA (l.toList.drop j) j=T i)(hi:ops.toList[i]?=T b)(f:(Region.noSelect ops && Region.free md ops l i && (Region.ready md ops l).contains i && waitsFor md ops n i)=QD)
  (o:∀ c a w,QM (.panic c) (a.put b.dst v) w->QM (.panic c) a w) (m:b.guard=Z) (g:∀ w,S w->(execOp a.eval b).run P w=.ok (.value v) w) (p:S w)
  (h:dB P md ops QM S n k (l.setIfInBounds i QD) (a.put b.dst v) w):dB P md ops QM S n (k+1) l a w:=by
 simp only[Bool.and_eq_true] at f;exact gS hi f.1.1.1 f.1.1.2 f.1.2 f.2 o m g p h
theorem af {i:Nat}{o:Oper}{k:Nat}{l:Array Bool}{a:Act}{w:G}(m:ops.toList[i]?=T o)(f:Region.ready md ops l=[i])
  (h:∀ b:Act->G->Prop,Shut (∀ a w,(i≠n->S w)->dB P md ops QM S n k (l.setIfInBounds i QD) a w->b a w)->if Region.wanted o (yielded ops a.tmps)=QD then Oper.wp P o a w b QM else b (a.put o.dst undef) w) :
  dB P md ops QM S n (k+1) l a w:=by
 rw[Array.getElem?_toList] at m;refine⟨fun e=>absurd e (by rw[f];exact List.cons_ne_nil _ _),fun j g=>?_⟩;rw[f] at g;obtain rfl:=List.mem_singleton.1 g;exact wpOp_step m fun b p=>h b (fun a w r q=>p a w ⟨r,q⟩)
theorem cC (j:Nat){i:Nat}{o:Oper}{k:Nat}{l:Array Bool}{a:Act}{w:G}(_:nxA (l.toList.drop j) j=T i)(g:ops.toList[i]?=T o)(f:Region.ready md ops l=[i])
  (h:∀ b:Act->G->Prop,Shut (∀ a w,(i≠n->S w)->dB P md ops QM S n k (l.setIfInBounds i QD) a w->b a w)->if Region.wanted o (yielded ops a.tmps)=QD then Oper.wp P o a w b QM else b (a.put o.dst undef) w) :
  dB P md ops QM S n (k+1) l a w:=af g f h
theorem aM {l:Array Bool}{a:Act}{w:G}(b:Region.ready md ops l=[])(h:QM .normal a w)(k:Nat):dB P md ops QM S n k l a w:=by
 cases k with
 | zero=>exact⟨b,h⟩
 | succ k=>exact⟨fun _=>h,by rw[b];intro i hi;cases hi⟩
theorem aD {id:Nat}{a:Act}{w:G}(S:G->Prop)(n:Nat)(b:P.follows .mixedOrders=QD)(h:dB P .any ops QM S n ops.size (Array.replicate ops.size QB) a w.drew):(Code.region id ops QD).wp P QM a w :=
 wp_region_any b (rU _ _ _ _ h)
end
section
variable {P:Program}{ops:Array Oper}{QM:Exit->Act->G->Prop}{md:Region.Mode}{S:G->Prop}{n:Nat}
theorem nH {i j:Nat}{g h:Oper}{k:Nat}{l:Array Bool}{a:Act}{w:G}(hi:ops.toList[i]?=T g)(s:ops.toList[j]?=T h)(r:Region.ready md ops l=[i,j])
  (h1:∀ b:Act->G->Prop,Shut (∀ a w,(i≠n->S w)->dB P md ops QM S n k (l.setIfInBounds i QD) a w->b a w)->if Region.wanted g (yielded ops a.tmps)=QD then Oper.wp P g a w b QM else b (a.put g.dst undef) w)
  (h2:∀ b:Act->G->Prop,Shut (∀ a w,(j≠n->S w)->dB P md ops QM S n k (l.setIfInBounds j QD) a w->b a w)->if Region.wanted h (yielded ops a.tmps)=QD then Oper.wp P h a w b QM else b (a.put h.dst undef) w) :
  dB P md ops QM S n (k+1) l a w:=by
 rw[Array.getElem?_toList] at hi s;refine⟨fun e=>absurd e (by rw[r];exact List.cons_ne_nil _ _),fun m f=>?_⟩;rw[r] at f;rcases List.mem_cons.1 f with rfl | f
 ·exact wpOp_step hi fun b o=>h1 b (fun a w q p=>o a w ⟨q,p⟩)
 ·obtain rfl:=List.mem_singleton.1 f
  exact wpOp_step s fun b o=>h2 b (fun a w q p=>o a w ⟨q,p⟩)
end
end Go.Proofs.YtamacmnikdejeaaGreatDoor.Ca
namespace Go.Proofs.YtamacmnikdejeaaGreatDoor.Vp
section
variable {P:Program}{ops:Array Oper}{QM:Exit->Act->G->Prop}{md:Region.Mode}{S:G->Prop}
theorem iU {i j:Nat}{f g:Oper}{k:Nat}{l:Array Bool}{a:Act}{w:G}(hi:ops.toList[i]?=T f)(o:ops.toList[j]?=T g)(p:Region.ready md ops l=[i,j])
  (h1:∀ b:Act->G->Prop,Shut (∀ a w,S w->wpAnyH P md ops QM S k (l.setIfInBounds i QD) a w->b a w)->if Region.wanted f (yielded ops a.tmps)=QD then Oper.wp P f a w b QM else b (a.put f.dst undef) w)
  (h2:∀ b:Act->G->Prop,Shut (∀ a w,S w->wpAnyH P md ops QM S k (l.setIfInBounds j QD) a w->b a w)->if Region.wanted g (yielded ops a.tmps)=QD then Oper.wp P g a w b QM else b (a.put g.dst undef) w) :
  wpAnyH P md ops QM S (k+1) l a w:=by
 rw[Array.getElem?_toList] at hi o;exact wpAnyH_ready p (List.cons_ne_nil _ _) (AllReadyH.cons hi (fun b h=>h1 b (fun a w n m=>h a w n (fun _=>m))) (AllReadyH.cons o (fun b h=>h2 b (fun a w n m=>h a w n (fun _=>m))) AllReadyH.nil))
theorem oE {i j m:Nat}{n p o:Oper}{k:Nat}{l:Array Bool}{a:Act}{w:G}(hi:ops.toList[i]?=T n)(r:ops.toList[j]?=T p)(q:ops.toList[m]?=T o)(s:Region.ready md ops l=[i,j,m])
  (h1:∀ b:Act->G->Prop,Shut (∀ a w,S w->wpAnyH P md ops QM S k (l.setIfInBounds i QD) a w->b a w)->if Region.wanted n (yielded ops a.tmps)=QD then Oper.wp P n a w b QM else b (a.put n.dst undef) w)
  (h2:∀ b:Act->G->Prop,Shut (∀ a w,S w->wpAnyH P md ops QM S k (l.setIfInBounds j QD) a w->b a w)->if Region.wanted p (yielded ops a.tmps)=QD then Oper.wp P p a w b QM else b (a.put p.dst undef) w)
  (t:∀ b:Act->G->Prop,Shut (∀ a w,S w->wpAnyH P md ops QM S k (l.setIfInBounds m QD) a w->b a w)->if Region.wanted o (yielded ops a.tmps)=QD then Oper.wp P o a w b QM else b (a.put o.dst undef) w) :
  wpAnyH P md ops QM S (k+1) l a w:=by
 rw[Array.getElem?_toList] at hi r q;exact wpAnyH_ready s (List.cons_ne_nil _ _) (AllReadyH.cons hi (fun b f=>h1 b (fun a w h g=>f a w h (fun _=>g))) (AllReadyH.cons r (fun b f=>h2 b (fun a w h g=>f a w h (fun _=>g))) (AllReadyH.cons q (fun b f=>t b (fun a w h g=>f a w h (fun _=>g))) AllReadyH.nil)))
end
end Go.Proofs.YtamacmnikdejeaaGreatDoor.Vp
