import Derived.RangeFuncKeeps
import Derived.RangeFuncFrom
open Option renaming none->Y,some->N
open Go renaming World->E,Value->QB,TypeId->QF
open Go.Value renaming bool->QA
open Go.Ending renaming returned->QD
namespace Go.Proofs.YtkdimgejdocbbaaGreatDoor.Ca
open RowKit
structure Upd (P:Nat->Prop)(w w':E):Prop where
 os:w'.os=w.os
 tape:w'.tape=w.tape
 output:w'.output=w.output
 size:w.heap.size<=w'.heap.size
 block:∀ k,k<w.heap.size->¬ P k->w'.heap[k]?=w.heap[k]?
theorem Upd.refl (P:Nat->Prop)(w:E):Upd P w w:=⟨rfl,rfl,rfl,Nat.le_refl _,fun _ _ _=>rfl⟩
theorem Upd.trans {P:Nat->Prop}{a b c:E}(h:Upd P a b)(k:Upd P b c):Upd P a c :=
 ⟨k.os.trans h.os,k.tape.trans h.tape,k.output.trans h.output,Nat.le_trans h.size k.size,fun i hi d=>(k.block i (Nat.lt_of_lt_of_le hi h.size) d).trans (h.block i hi d)⟩
theorem Upd.mono {P QM:Nat->Prop}{a b:E}(h:Upd P a b)(d:∀ k,P k->QM k):Upd QM a b :=
 ⟨h.os,h.tape,h.output,h.size,fun i hi f=>h.block i hi (fun g=>f (d i g))⟩
theorem Upd.setCell {P:Nat->Prop}(w:E){p:Addr}(d:P p.block)(v:QB):Upd P w (w.setCell p v) :=
 ⟨rfl,rfl,rfl,by simp[World.setCell],fun k _ b=>Below.heap_setCell _ _ _ _ (fun e=>b (e ▸ d))⟩
theorem Upd.putObj {P:Nat->Prop}(w:E){l:Nat}(d:P l)(o:Obj):Upd P w (w.putObj l o) :=
 ⟨rfl,rfl,rfl,by simp,fun k _ b=>World.putObj_heap_other (fun e=>b (e ▸ d))⟩
theorem dy {n:Nat}(w:E){l:Nat}(b:n<=l)(hl:l<w.heap.size)(o:Obj):Below n w (w.putObj l o) :=
 (Below.refl n w).grown (grownBy_putObj' w l o) (by omega) (fun k e=>by cases e;exact b)
def zz {f:Type}(F:Fence)(n:Nat)(P:Program)(g:Nat)(p:Array QB)(i:f->Array QB)(o:f->Prop)(j:Nat)(S q:List f->Prop)(QL:Nat)(w:E):Prop :=
 ∀ (l:Nat) (QN h:List f->E->Prop) (W:E),Below w.heap.size w W->(∀ s A B,QN s A->Below W.heap.size A B->QN s B)->(∀ s A B,h s A->Below W.heap.size A B->h s B) ->
  (∀ pre x d,o x->QN pre d->pre.length<QL->W.heap.size<=d.heap.size->YieldAt F (n - 1) P l (i x) d fun e b =>
   (e=QD (QA true)/\QN (pre++[x]) b/\Upd (fun k=>j<=k/\k<W.heap.size) d b)∨(e=QD (QA false)/\h (pre++[x]) b)) ->
  QN [] W ->
  CallsIn F n P g (#[.func (.yield l) #[] #[]]++p) W fun e b=>(∃ v,e=QD v)/\((∃ m,S m/\QN m b)∨(∃ pre,q pre/\h pre b))
def ED {g:Type}(b d:Nat)(QO:List g->E->Prop)(h:Code->List g->E->Prop)(f:List g)(W:E):Exit->Act->E->Prop
 | .normal,_,W'=>Upd (fun k=>b<=k/\k<d) W W'/\QO f W'
 | .ret,_,W'=>Upd (fun k=>b<=k/\k<d) W W'/\h .ret f W'
 | .exit id,_,W'=>Upd (fun k=>b<=k/\k<d) W W'/\h (.exit id) f W'
 | .goto t,_,W'=>Upd (fun k=>b<=k/\k<d) W W'/\h (.goto t) f W'
 | .panic _,_,_=>False
 | .outgrown,_,_=>False
theorem iR {F:Fence}{n:Nat}{P:Program}{m:Type}{g:Operand}{ps:Array Tmp}{assign body:Code}{QM:Exit->Act->E->Prop}{a:Act}{w:E}
  (th:F.round=Y) (h1:1<=n) {gf:Nat} {lb:Array QB} (hg:a.eval g=.func (.func gf) #[] lb) (At:F.fn gf) (eg:∀ args w,(callFunc gf args).run P w=.ok (.enter gf args) w)
  {y:m->Array QB} {Ox:m->Prop} {base:Nat} {S Sp:List m->Prop} {QL:Nat} {V:E} (hbase:base<=w.heap.size) (mv:zz F (n - 1) P gf lb y Ox base S Sp QL V) (la:Below V.heap.size V w) (DE:∀ x,(y x).size=ps.size)
  (QO:List m->E->Prop) (X:Code->List m->E->Prop) (QJ:∀ s A B,QO s A->Below w.heap.size A B->QO s B) (C:∀ c s A B,X c s A->Below w.heap.size A B->X c s B) (h0:QO [] w) (O:m->Act)
  (QN:∀ (l:Nat) (x:m) (W:E) (K:Act->E->Prop),K (O x) W ->
   assign.wpIn (F.inRound l) (n - 1 - 1) P (Exit.then K (fun _ _ _=>False)) { tmps:=(ps.zip (y x)).foldl (fun t (p,v)=>t.setIfInBounds p v) a.tmps,defers:=[] } W)
  (aq:∀ (l:Nat) (pre:List m) (x:m) (W:E),Ox x->QO pre W->pre.length<QL->w.heap.size<=W.heap.size->body.wpIn (F.inRound l) (n - 1 - 1) P (ED base w.heap.size QO X (pre++[x]) W) (O x) W)
  (bt:∀ (QQ:Nat) (QH:List m) (W:E),w.heap.size<=QQ->S QH->QO QH W->W.heap[QQ]?=N (.deferred (N []))->QM .normal { a with defers:={ target:=.collected QQ,args:=#[] } :: a.defers } W)
  (QG:∀ (QQ:Nat) (c:Code) (pre:List m) (W:E),w.heap.size<=QQ->Sp pre->X c pre W->W.heap[QQ]?=N (.deferred (N []))->c.wpIn F n P QM { a with defers:={ target:=.collected QQ,args:=#[] } :: a.defers } W) :
  (Code.rangeFunc g ps assign body).wpIn F n P QM a w:=by
 refine wpIn_rangeFunc ?_;intro fn ro;rw[th];obtain⟨b,d⟩:∃ b:LoopState->Option Code->Loop,b=fun st pe=>{ state:=st,pending:=pe,fn,tmps:=a.tmps,params:=ps,assign,body,defers:=w.heap.size }:=⟨_,rfl⟩
 obtain⟨j,QP⟩:∃ j,(w.alloc (.deferred (N []))).alloc (.loop (b .ready Y))=j:=⟨_,rfl⟩
 have hs1:j.heap.size=w.heap.size+2:=by rw[<-QP];simp
 have DA:j.heap[w.heap.size+1]?=N (.loop (b .ready Y)):=by rw[<-QP];have:=World.alloc_heap_new (w.alloc (.deferred (N []))) (.loop (b .ready Y));rwa[World.size_alloc] at this
 have n8:j.heap[w.heap.size]?=N (.deferred (N [])):=by rw[<-QP];exact(Below.heap_alloc _ _ _ (by simp)).trans (World.alloc_heap_new w _)
 have ex:Below w.heap.size w j:=by rw[<-QP];exact((Below.refl _ w).alloc (Nat.le_refl _) _).alloc (by simp) _
 have qr:QO [] j:=QJ _ _ _ h0 ex;have ph:Below V.heap.size V j:=la.trans (ex.mono la.size)
 refine⟨w.heap.size+1,[{ target:=.collected w.heap.size,args:=#[] }],j,{ target:=.fn (.func gf) lb,args:=#[.func (.yield (w.heap.size+1)) #[] #[]] },j,gf,
  #[.func (.yield (w.heap.size+1)) #[] #[]]++lb,j,?_,?_,?_,?_,fun _=>h1,?_⟩
 ·rw[<-QP,d];exact run_enterLoop_outer _ _ _ _ _
 ·simp only[resolve,hg]
  simp[go_sem]
 ·intro f' ld;simp[Target.leads] at ld;subst ld;exact At
 ·simp[invoke,go_sem,eg]
 ·refine(mv (w.heap.size+1)
   (fun pre W=>QO pre W/\W.heap[w.heap.size+1]?=N (.loop (b .ready Y))/\W.heap[w.heap.size]?=N (.deferred (N [])))
   (fun pre W=>∃ c,X c pre W/\W.heap[w.heap.size+1]?=N (.loop (b .done (N c)))/\W.heap[w.heap.size]?=N (.deferred (N [])))
   j ph
   (fun s A B R H=>⟨QJ s A B R.1 (H.mono (by omega)),(H.block _ (by omega)).trans R.2.1,(H.block _ (by omega)).trans R.2.2⟩)
   (fun s A B R H=>by
    obtain⟨c,hc,o,z⟩:=R
    exact⟨c,C c s A B hc (H.mono (by omega)),(H.block _ (by omega)).trans o,(H.block _ (by omega)).trans z⟩)
   ?_ ⟨qr,DA,n8⟩).mono ?_
  ·-- one round
   rintro pre x W Bk ⟨hi,o,z⟩ n6 _;have QK:w.heap.size+1<W.heap.size:=(Array.getElem?_eq_some_iff.1 o).1;have hy:=run_yield (P:=P) (args:=y x) o (by rw[d];exact DE x);rw[d] at hy;refine⟨fn,_,assign,body,hy,roundIn_of_wpIn ro (QN _ x W _ ⟨_,run_beginRound o (by rw[d]),?_⟩)⟩;have n7:(W.putObj (w.heap.size+1) (.loop { b .ready Y with state:=.busy })).heap[w.heap.size+1]?=N (.loop { b .ready Y with state:=.busy }):=World.putObj_heap_same QK;have ur:(W.putObj (w.heap.size+1) (.loop { b .ready Y with state:=.busy })).heap[w.heap.size]?=N (.deferred (N [])):=(World.putObj_heap_other (by omega)).trans z;have sm:Upd (fun k=>base<=k/\k<j.heap.size) W (W.putObj (w.heap.size+1) (.loop { b .ready Y with state:=.busy })):=Upd.putObj _ ⟨by omega,by omega⟩ _;refine wpIn_mono (aq _ pre x _ Bk (QJ _ _ _ hi (dy _ (by omega) QK _)) n6 (by simp;omega)) ?_
   have fin:∀ (jump:Option Code) (i:E),Upd (fun k=>base<=k/\k<w.heap.size) (W.putObj (w.heap.size+1) (.loop { b .ready Y with state:=.busy })) i ->
     (Instr.endRound (w.heap.size+1) jump).run P i=.ok (QA jump.isNone) (i.putObj (w.heap.size+1) (.loop (b (if jump.isNone then .ready else .done) jump))) /\
     Below w.heap.size i (i.putObj (w.heap.size+1) (.loop (b (if jump.isNone then .ready else .done) jump))) /\
     (i.putObj (w.heap.size+1) (.loop (b (if jump.isNone then .ready else .done) jump))).heap[w.heap.size+1]?=N (.loop (b (if jump.isNone then .ready else .done) jump)) /\
     (i.putObj (w.heap.size+1) (.loop (b (if jump.isNone then .ready else .done) jump))).heap[w.heap.size]?=N (.deferred (N [])):=fun jump i f=>by
    have fd:=(f.block _ (by simpa using QK) (by omega)).trans n7;have h:=(f.block _ (by simp;omega) (by omega)).trans ur;have M:=(Array.getElem?_eq_some_iff.1 fd).1;have:=run_endRound (P:=P) jump fd;rw[d] at this ⊢;exact⟨this,dy _ (by omega) M _,World.putObj_heap_same M,(World.putObj_heap_other (by omega)).trans h⟩
   rintro e a3 i L;cases e with
   | normal =>obtain⟨f,r⟩:=L;obtain⟨G,u,q,h⟩:=fin Y i f;exact⟨_,_,G,.inl ⟨rfl,⟨QJ _ _ _ r u,q,h⟩,(sm.trans (f.mono (fun k z=>⟨z.1,by omega⟩))).trans (Upd.putObj _ ⟨by omega,by omega⟩ _)⟩⟩
   | ret =>obtain⟨f,r⟩:=L;obtain⟨G,u,q,h⟩:=fin (N .ret) i f;exact⟨_,_,G,.inr ⟨rfl,.ret,C _ _ _ _ r u,q,h⟩⟩
   | exit id =>obtain⟨f,r⟩:=L;obtain⟨G,u,q,h⟩:=fin (N (.exit id)) i f;exact⟨_,_,G,.inr ⟨rfl,.exit id,C _ _ _ _ r u,q,h⟩⟩
   | goto t =>obtain⟨f,r⟩:=L;obtain⟨G,u,q,h⟩:=fin (N (.goto t)) i f;exact⟨_,_,G,.inr ⟨rfl,.goto t,C _ _ _ _ r u,q,h⟩⟩
   | panic ch=>exact L.elim
   | outgrown=>exact L.elim
  ·rintro e W2 ⟨⟨v,rfl⟩,(⟨QH,hS,hi,o,z⟩ | ⟨pre,n9,c,hi,o,z⟩)⟩
   ·exact⟨Y,_,by have:=run_endLoop (P:=P) o (by rw[d];simp);rw[d] at this;exact this,bt _ QH _ (Nat.le_refl _) hS (QJ _ _ _ hi (dy _ (by omega) (Array.getElem?_eq_some_iff.1 o).1 _)) ((World.putObj_heap_other (by omega)).trans z)⟩
   ·exact⟨N c,_,by have:=run_endLoop (P:=P) o (by rw[d];simp);rw[d] at this;exact this,QG _ c pre _ (Nat.le_refl _) n9 (C _ _ _ _ hi (dy _ (by omega) (Array.getElem?_eq_some_iff.1 o).1 _)) ((World.putObj_heap_other (by omega)).trans z)⟩
def OfTy (w:E)(k:Nat)(e:QF):Prop:=∃ c z,w.heap[k]?=N (.cells c e z)
theorem OfTy.eq {w b:E}{k:Nat}{e:QF}(h:OfTy w k e)(hb:b.heap[k]?=w.heap[k]?):OfTy b k e:=by obtain⟨c,z,h⟩:=h;exact⟨c,z,hb.trans h⟩
theorem OfTy.ne {w:E}{k:Nat}{e d:QF}(h:OfTy w k e)(f:d≠e):¬ OfTy w k d:=by
 obtain⟨c,z,h⟩:=h;rintro⟨c',z',b⟩;rw[h] at b;cases b
 exact f rfl
theorem OfTy.set {w:E}{k:Nat}{e:QF}(h:OfTy w k e)(p:Addr)(v:QB):OfTy (w.setCell p v) k e:=by
 obtain⟨c,z,h⟩:=h;by_cases b:p.block=k
 ·subst b
  have hlt:=(Array.getElem?_eq_some_iff.1 h).1;have he:=(Array.getElem?_eq_some_iff.1 h).2;exact⟨if p.spot.isSome=true then c else c.setIfInBounds p.off v,z,by simp[World.setCell,Array.getElem?_modify,h]⟩
 ·exact⟨c,z,(Below.heap_setCell _ _ _ _ (fun e=>b e.symm)).trans h⟩
theorem OfTy.new (w:E)(c:Array QB)(e:QF):OfTy (w.alloc (.cells c e)) w.heap.size e:=⟨c,_,World.alloc_heap_new w _⟩
structure Upd2 (QK:QF)(base n₀:Nat)(w w':E):Prop where
 os:w'.os=w.os
 tape:w'.tape=w.tape
 output:w'.output=w.output
 size:w.heap.size<=w'.heap.size
 block:∀ k,k<w.heap.size->(k<base∨(n₀<=k/\¬ OfTy w k QK))->w'.heap[k]?=w.heap[k]?
theorem Upd.two {b d:Nat}{w f:E}(h:Upd (fun k=>b<=k/\k<d) w f)(QK:QF):Upd2 QK b d w f:=⟨h.os,h.tape,h.output,h.size,fun k g hp=>h.block k g (by omega)⟩
theorem Upd2.below {QK:QF}{d f:Nat}{a b:E}(h:Upd2 QK d f a b)(hb:d<=a.heap.size):Below d a b:=⟨h.os,h.tape,h.output,h.size,fun k g=>h.block k (by omega) (.inl g)⟩
structure Itr (B:QF)(n:Nat)(w w':E):Prop where
 low:Below n w w'
 keep:∀ (k:Nat) (c:Array QB) (e:QF) (z:Nat × Nat),w.heap[k]?=N (Obj.cells c e z)->e≠B->w'.heap[k]?=w.heap[k]?
theorem Itr.of_below {B:QF}{n m:Nat}{w b:E}(h:Below m w b)(d:w.heap.size<=m)(g:n<=m):Itr B n w b :=
 ⟨h.mono g,fun k _ _ _ f _=>h.block k (Nat.lt_of_lt_of_le (Array.getElem?_eq_some_iff.1 f).1 d)⟩
theorem Itr.setCell {B:QF}{n:Nat}(w:E){p:Addr}(g:n<=p.block)(i:OfTy w p.block B)(v:QB):Itr B n w (w.setCell p v) :=
 ⟨(Below.refl n w).setCell g v,fun k c e z f d=>Below.heap_setCell _ _ _ _ (fun h=>by
  obtain⟨c',z',b⟩:=i;rw[<-h,f] at b;cases b
  exact d rfl)⟩
def SeqT2 {d:Type}(QK B:QF)(F:Fence)(n:Nat)(P:Program)(g:Nat)(o:Array QB)(i:d->Array QB)(m:List d->d->Prop)(j:Nat)(S p:List d->Prop)(w:E):Prop :=
 ∀ (l:Nat) (QN h:List d->E->Prop) (W:E),Below w.heap.size w W->(∀ s A C,QN s A->Itr B W.heap.size A C->QN s C)->(∀ s A C,h s A->Itr B W.heap.size A C->h s C) ->
  (∀ pre x f,m pre x->QN pre f->W.heap.size<=f.heap.size->YieldAt F (n - 1) P l (i x) f fun e b =>
   (e=QD (QA true)/\QN (pre++[x]) b/\Upd2 QK j W.heap.size f b)∨(e=QD (QA false)/\h (pre++[x]) b)) ->
  QN [] W ->
  CallsIn F n P g (#[.func (.yield l) #[] #[]]++o) W fun e b=>(∃ v,e=QD v)/\((∃ k,S k/\QN k b)∨(∃ pre,p pre/\h pre b))
theorem YieldAt.mono2 {F:Fence}{m:Nat}{P:Program}{l:Nat}{args:Array QB}{W:E}{R d:Ending->E->Prop}(h:YieldAt F m P l args W R)(hR:∀ e b,R e b->d e b):YieldAt F m P l args W d:=by obtain⟨fn,tmps,assign,body,f,g⟩:=h;exact⟨fn,tmps,assign,body,f,g.mono hR⟩
theorem SeqT2.plain {d:Type}{QK B:QF}{F:Fence}{n:Nat}{P:Program}{g:Nat}{m:Array QB}{f:d->Array QB}{q:List d->d->Prop}{j:d->Prop}{i:Nat}{S r:List d->Prop}{QL:Nat}{w:E}(h:SeqT2 QK B F n P g m f q i S r w)(p:∀ pre x,q pre x->j x/\pre.length<QL):zz F n P g m f j i S r QL w :=
 fun l QN u W H z o t QQ=>h l QN u W H (fun s A C k hi=>z s A C k hi.low) (fun s A C k hi=>o s A C k hi.low) (fun pre x QP h1 h2 G=>YieldAt.mono2 (t pre x QP (p pre x h1).1 h2 (p pre x h1).2 G) fun _ _ y=>y.imp (fun⟨a,b,c⟩=>⟨a,b,c.two QK⟩) id) QQ
end Go.Proofs.YtkdimgejdocbbaaGreatDoor.Ca
