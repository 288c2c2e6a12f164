import Derived.RangeFuncKeeps
import Derived.RangeFuncFrom
namespace Go.Proofs.YtkophfgkcijjkaaGreatDoor.Ca
open RowKit
structure Upd (P:Nat->Prop)(w w':World):Prop where
 os:w'.os=w.os
 tape:w'.tape=w.tape
 output:w'.output=w.output
 size:w.heap.size<=w'.heap.size
 block:∀ k,k<w.heap.size->¬ P k->w'.heap[k]?=w.heap[k]?
theorem Upd.refl (P:Nat->Prop)(w:World):Upd P w w:=⟨rfl,rfl,rfl,Nat.le_refl _,fun _ _ _=>rfl⟩
theorem Upd.trans {P:Nat->Prop}{a b c:World}(h:Upd P a b)(k:Upd P b c):Upd P a c :=
 ⟨k.os.trans h.os,k.tape.trans h.tape,k.output.trans h.output,Nat.le_trans h.size k.size,fun i hi d=>(k.block i (Nat.lt_of_lt_of_le hi h.size) d).trans (h.block i hi d)⟩
theorem Upd.mono {P Q:Nat->Prop}{a b:World}(h:Upd P a b)(c:∀ k,P k->Q k):Upd Q a b :=
 ⟨h.os,h.tape,h.output,h.size,fun i hi f=>h.block i hi (fun d=>f (c i d))⟩
theorem Upd.of_below {P:Nat->Prop}{B:Nat}{w b:World}(h:Below B w b)(c:w.heap.size<=B):Upd P w b :=
 ⟨h.os,h.tape,h.output,h.size,fun i hi _=>h.block i (Nat.lt_of_lt_of_le hi c)⟩
theorem Upd.below {P:Nat->Prop}{B:Nat}{w b:World}(h:Upd P w b)(d:∀ k,P k->B<=k)(g:B<=w.heap.size):Below B w b :=
 ⟨h.os,h.tape,h.output,h.size,fun k f=>h.block k (Nat.lt_of_lt_of_le f g) (fun c=>by have:=d k c;omega)⟩
theorem Upd.setCell {P:Nat->Prop}(w:World){p:Addr}(b:P p.block)(v:Value):Upd P w (w.setCell p v) :=
 ⟨rfl,rfl,rfl,by simp[World.setCell],fun k _ c=>Below.heap_setCell _ _ _ _ (fun e=>c (e ▸ b))⟩
theorem Upd.putObj {P:Nat->Prop}(w:World){l:Nat}(b:P l)(o:Obj):Upd P w (w.putObj l o) :=
 ⟨rfl,rfl,rfl,by simp,fun k _ c=>World.putObj_heap_other (fun e=>c (e ▸ b))⟩
theorem cT {n:Nat}(w:World){l:Nat}(hn:n<=l)(hl:l<w.heap.size)(o:Obj):Below n w (w.putObj l o) :=
 (Below.refl n w).grown (grownBy_putObj' w l o) (by omega) (fun k e=>by cases e;exact hn)
def vk {c:Type}(F:Fence)(n:Nat)(P:Program)(g:Nat)(m:Array Value)(i:c->Array Value)(p:c->Prop)(h:Nat)(S o:List c->Prop)(N:Nat)(w:World):Prop :=
 ∀ (l:Nat) (J f:List c->World->Prop) (W:World),Below w.heap.size w W->(∀ s A B,J s A->Below W.heap.size A B->J s B)->(∀ s A B,f s A->Below W.heap.size A B->f s B) ->
  (∀ pre x d,p x->J pre d->pre.length<N->W.heap.size<=d.heap.size->YieldAt F (n - 1) P l (i x) d fun e b =>
   (e=.returned (.bool true)/\J (pre++[x]) b/\Upd (fun k=>h<=k/\k<W.heap.size) d b)∨(e=.returned (.bool false)/\f (pre++[x]) b)) ->
  J [] W ->
  CallsIn F n P g (#[.func (.yield l) #[] #[]]++m) W fun e b=>(∃ v,e=.returned v)/\((∃ j,S j/\J j b)∨(∃ pre,o pre/\f pre b))
def zc {g:Type}(c b:Nat)(I:List g->World->Prop)(f:Code->List g->World->Prop)(d:List g)(W:World):Exit->Act->World->Prop
 | .normal,_,W'=>Upd (fun k=>c<=k/\k<b) W W'/\I d W'
 | .ret,_,W'=>Upd (fun k=>c<=k/\k<b) W W'/\f .ret d W'
 | .exit id,_,W'=>Upd (fun k=>c<=k/\k<b) W W'/\f (.exit id) d W'
 | .goto t,_,W'=>Upd (fun k=>c<=k/\k<b) W W'/\f (.goto t) d W'
 | .panic _,_,_=>False
 | .outgrown,_,_=>False
theorem gI {F:Fence}{n:Nat}{P:Program}{u:Type}{g:Operand}{ps:Array Tmp}{assign body:Code}{Q:Exit->Act->World->Prop}{a:Act}{w:World}
  (ro:F.round=none) (h1:1<=n) {gf:Nat} {lb:Array Value} (hg:a.eval g=.func (.func gf) #[] lb) (qr:F.fn gf) (eg:∀ args w,(callFunc gf args).run P w=.ok (.enter gf args) w)
  {z:u->Array Value} {Ox:u->Prop} {base:Nat} {S Sp:List u->Prop} {N:Nat} {Y:World} (hbase:base<=w.heap.size) (mv:vk F (n - 1) P gf lb z Ox base S Sp N Y) (fd:Below Y.heap.size Y w) (n9:∀ x,(z x).size=ps.size)
  (I:List u->World->Prop) (R:Code->List u->World->Prop) (X:∀ s A B,I s A->Below w.heap.size A B->I s B) (G:∀ c s A B,R c s A->Below w.heap.size A B->R c s B) (h0:I [] w) (O:u->Act)
  (M:∀ (l:Nat) (x:u) (W:World) (K:Act->World->Prop),K (O x) W ->
   assign.wpIn (F.inRound l) (n - 1 - 1) P (Exit.then K (fun _ _ _=>False)) { tmps:=(ps.zip (z x)).foldl (fun t (p,v)=>t.setIfInBounds p v) a.tmps,defers:=[] } W)
  (aq:∀ (l:Nat) (pre:List u) (x:u) (W:World),Ox x->I pre W->pre.length<N->w.heap.size<=W.heap.size->body.wpIn (F.inRound l) (n - 1 - 1) P (zc base w.heap.size I R (pre++[x]) W) (O x) W)
  (bt:∀ (D:Nat) (xs:List u) (W:World),w.heap.size<=D->S xs->I xs W->W.heap[D]?=some (.deferred (some []))->Q .normal { a with defers:={ target:=.collected D,args:=#[] } :: a.defers } W)
  (Z:∀ (D:Nat) (c:Code) (pre:List u) (W:World),w.heap.size<=D->Sp pre->R c pre W->W.heap[D]?=some (.deferred (some []))->c.wpIn F n P Q { a with defers:={ target:=.collected D,args:=#[] } :: a.defers } W) :
  (Code.rangeFunc g ps assign body).wpIn F n P Q a w:=by
 refine wpIn_rangeFunc ?_;intro fn th;rw[ro];obtain⟨d,f⟩:∃ d:LoopState->Option Code->Loop,d=fun st pe=>{ state:=st,pending:=pe,fn,tmps:=a.tmps,params:=ps,assign,body,defers:=w.heap.size }:=⟨_,rfl⟩
 obtain⟨j,E⟩:∃ j,(w.alloc (.deferred (some []))).alloc (.loop (d .ready none))=j:=⟨_,rfl⟩
 have hs1:j.heap.size=w.heap.size+2:=by rw[<-E];simp
 have ur:j.heap[w.heap.size+1]?=some (.loop (d .ready none)):=by rw[<-E];have:=World.alloc_heap_new (w.alloc (.deferred (some []))) (.loop (d .ready none));rwa[World.size_alloc] at this
 have zH:j.heap[w.heap.size]?=some (.deferred (some [])):=by rw[<-E];exact(Below.heap_alloc _ _ _ (by simp)).trans (World.alloc_heap_new w _)
 have ex:Below w.heap.size w j:=by rw[<-E];exact((Below.refl _ w).alloc (Nat.le_refl _) _).alloc (by simp) _
 have zE:I [] j:=X _ _ _ h0 ex;have sm:Below Y.heap.size Y j:=fd.trans (ex.mono fd.size)
 refine⟨w.heap.size+1,[{ target:=.collected w.heap.size,args:=#[] }],j,{ target:=.fn (.func gf) lb,args:=#[.func (.yield (w.heap.size+1)) #[] #[]] },j,gf,
  #[.func (.yield (w.heap.size+1)) #[] #[]]++lb,j,?_,?_,?_,?_,fun _=>h1,?_⟩
 ·rw[<-E,f];exact run_enterLoop_outer _ _ _ _ _
 ·simp only[resolve,hg]
  simp[go_sem]
 ·intro f' la;simp[Target.leads] at la;subst la;exact qr
 ·simp[invoke,go_sem,eg]
 ·refine(mv (w.heap.size+1)
   (fun pre W=>I pre W/\W.heap[w.heap.size+1]?=some (.loop (d .ready none))/\W.heap[w.heap.size]?=some (.deferred (some [])))
   (fun pre W=>∃ c,R c pre W/\W.heap[w.heap.size+1]?=some (.loop (d .done (some c)))/\W.heap[w.heap.size]?=some (.deferred (some [])))
   j sm
   (fun s A B U J=>⟨X s A B U.1 (J.mono (by omega)),(J.block _ (by omega)).trans U.2.1,(J.block _ (by omega)).trans U.2.2⟩)
   (fun s A B U J=>by
    obtain⟨c,hc,y,C⟩:=U
    exact⟨c,G c s A B hc (J.mono (by omega)),(J.block _ (by omega)).trans y,(J.block _ (by omega)).trans C⟩)
   ?_ ⟨zE,ur,zH⟩).mono ?_
  ·-- one round
   rintro pre x W zD ⟨hi,y,C⟩ n8 _;have T:w.heap.size+1<W.heap.size:=(Array.getElem?_eq_some_iff.1 y).1;have hy:=run_yield (P:=P) (args:=z x) y (by rw[f];exact n9 x);rw[f] at hy;refine⟨fn,_,assign,body,hy,roundIn_of_wpIn th (M _ x W _ ⟨_,run_beginRound y (by rw[f]),?_⟩)⟩;have zG:(W.putObj (w.heap.size+1) (.loop { d .ready none with state:=.busy })).heap[w.heap.size+1]?=some (.loop { d .ready none with state:=.busy }):=World.putObj_heap_same T;have zF:(W.putObj (w.heap.size+1) (.loop { d .ready none with state:=.busy })).heap[w.heap.size]?=some (.deferred (some [])):=(World.putObj_heap_other (by omega)).trans C;have zI:Upd (fun k=>base<=k/\k<j.heap.size) W (W.putObj (w.heap.size+1) (.loop { d .ready none with state:=.busy })):=Upd.putObj _ ⟨by omega,by omega⟩ _;refine wpIn_mono (aq _ pre x _ zD (X _ _ _ hi (cT _ (by omega) T _)) n8 (by simp;omega)) ?_
   have fin:∀ (b:Option Code) (m:World),Upd (fun k=>base<=k/\k<w.heap.size) (W.putObj (w.heap.size+1) (.loop { d .ready none with state:=.busy })) m ->
     (Instr.endRound (w.heap.size+1) b).run P m=.ok (.bool b.isNone) (m.putObj (w.heap.size+1) (.loop (d (if b.isNone then .ready else .done) b))) /\
     Below w.heap.size m (m.putObj (w.heap.size+1) (.loop (d (if b.isNone then .ready else .done) b))) /\
     (m.putObj (w.heap.size+1) (.loop (d (if b.isNone then .ready else .done) b))).heap[w.heap.size+1]?=some (.loop (d (if b.isNone then .ready else .done) b)) /\
     (m.putObj (w.heap.size+1) (.loop (d (if b.isNone then .ready else .done) b))).heap[w.heap.size]?=some (.deferred (some [])):=fun b m h=>by
    have ld:=(h.block _ (by simpa using T) (by omega)).trans zG;have i:=(h.block _ (by simp;omega) (by omega)).trans zF;have V:=(Array.getElem?_eq_some_iff.1 ld).1;have:=run_endRound (P:=P) b ld;rw[f] at this ⊢;exact⟨this,cT _ (by omega) V _,World.putObj_heap_same V,(World.putObj_heap_other (by omega)).trans i⟩
   rintro e a3 m L;cases e with
   | normal =>obtain⟨h,o⟩:=L;obtain⟨H,r,q,i⟩:=fin none m h;exact⟨_,_,H,.inl ⟨rfl,⟨X _ _ _ o r,q,i⟩,(zI.trans (h.mono (fun k C=>⟨C.1,by omega⟩))).trans (Upd.putObj _ ⟨by omega,by omega⟩ _)⟩⟩
   | ret =>obtain⟨h,o⟩:=L;obtain⟨H,r,q,i⟩:=fin (some .ret) m h;exact⟨_,_,H,.inr ⟨rfl,.ret,G _ _ _ _ o r,q,i⟩⟩
   | exit id =>obtain⟨h,o⟩:=L;obtain⟨H,r,q,i⟩:=fin (some (.exit id)) m h;exact⟨_,_,H,.inr ⟨rfl,.exit id,G _ _ _ _ o r,q,i⟩⟩
   | goto t =>obtain⟨h,o⟩:=L;obtain⟨H,r,q,i⟩:=fin (some (.goto t)) m h;exact⟨_,_,H,.inr ⟨rfl,.goto t,G _ _ _ _ o r,q,i⟩⟩
   | panic ch=>exact L.elim
   | outgrown=>exact L.elim
  ·rintro e W2 ⟨⟨v,rfl⟩,(⟨xs,hS,hi,y,C⟩ | ⟨pre,zJ,c,hi,y,C⟩)⟩
   ·exact⟨none,_,by have:=run_endLoop (P:=P) y (by rw[f];simp);rw[f] at this;exact this,bt _ xs _ (Nat.le_refl _) hS (X _ _ _ hi (cT _ (by omega) (Array.getElem?_eq_some_iff.1 y).1 _)) ((World.putObj_heap_other (by omega)).trans C)⟩
   ·exact⟨some c,_,by have:=run_endLoop (P:=P) y (by rw[f];simp);rw[f] at this;exact this,Z _ c pre _ (Nat.le_refl _) zJ (G _ _ _ _ hi (cT _ (by omega) (Array.getElem?_eq_some_iff.1 y).1 _)) ((World.putObj_heap_other (by omega)).trans C)⟩
def OfTy (w:World)(k:Nat)(e:TypeId):Prop:=∃ c z,w.heap[k]?=some (.cells c e z)
theorem OfTy.eq {w b:World}{k:Nat}{e:TypeId}(h:OfTy w k e)(hb:b.heap[k]?=w.heap[k]?):OfTy b k e:=by obtain⟨c,z,h⟩:=h;exact⟨c,z,hb.trans h⟩
theorem OfTy.ne {w:World}{k:Nat}{e b:TypeId}(h:OfTy w k e)(hn:b≠e):¬ OfTy w k b:=by
 obtain⟨c,z,h⟩:=h;rintro⟨c',z',d⟩;rw[h] at d;cases d
 exact hn rfl
theorem OfTy.set {w:World}{k:Nat}{e:TypeId}(h:OfTy w k e)(p:Addr)(v:Value):OfTy (w.setCell p v) k e:=by
 obtain⟨c,z,h⟩:=h;by_cases b:p.block=k
 ·subst b
  have hlt:=(Array.getElem?_eq_some_iff.1 h).1;have he:=(Array.getElem?_eq_some_iff.1 h).2;exact⟨if p.spot.isSome=true then c else c.setIfInBounds p.off v,z,by simp[World.setCell,Array.getElem?_modify,h]⟩
 ·exact⟨c,z,(Below.heap_setCell _ _ _ _ (fun e=>b e.symm)).trans h⟩
theorem OfTy.new (w:World)(c:Array Value)(e:TypeId):OfTy (w.alloc (.cells c e)) w.heap.size e:=⟨c,_,World.alloc_heap_new w _⟩
structure Upd2 (T:TypeId)(base n₀:Nat)(w w':World):Prop where
 os:w'.os=w.os
 tape:w'.tape=w.tape
 output:w'.output=w.output
 size:w.heap.size<=w'.heap.size
 block:∀ k,k<w.heap.size->(k<base∨(n₀<=k/\¬ OfTy w k T))->w'.heap[k]?=w.heap[k]?
theorem Upd.two {c b:Nat}{w d:World}(h:Upd (fun k=>c<=k/\k<b) w d)(T:TypeId):Upd2 T c b w d:=⟨h.os,h.tape,h.output,h.size,fun k f hp=>h.block k f (by omega)⟩
theorem OfTy.of_eq {w b:World}{k:Nat}{e:TypeId}(h:OfTy b k e)(hb:b.heap[k]?=w.heap[k]?):OfTy w k e:=by obtain⟨c,z,h⟩:=h;exact⟨c,z,hb.symm.trans h⟩
theorem Upd2.trans {T:TypeId}{f d:Nat}{a b c:World}(h:Upd2 T f d a b)(k:Upd2 T f d b c):Upd2 T f d a c :=
 ⟨k.os.trans h.os,k.tape.trans h.tape,k.output.trans h.output,Nat.le_trans h.size k.size,fun i hi g =>
  have e:=h.block i hi g
  (k.block i (Nat.lt_of_lt_of_le hi h.size) (g.imp id fun⟨x,y⟩=>⟨x,fun t=>y (t.of_eq e)⟩)).trans e⟩
theorem Upd2.mono {T:TypeId}{d c m:Nat}{a b:World}(h:Upd2 T d c a b)(hm:c<=m):Upd2 T d m a b :=
 ⟨h.os,h.tape,h.output,h.size,fun i hi f=>h.block i hi (f.imp id fun⟨x,y⟩=>⟨by omega,y⟩)⟩
theorem Upd2.below {T:TypeId}{c d:Nat}{a b:World}(h:Upd2 T c d a b)(hb:c<=a.heap.size):Below c a b:=⟨h.os,h.tape,h.output,h.size,fun k f=>h.block k (by omega) (.inl f)⟩
theorem Upd2.of_below {T:TypeId}{c b B:Nat}{w d:World}(h:Below B w d)(f:w.heap.size<=B):Upd2 T c b w d :=
 ⟨h.os,h.tape,h.output,h.size,fun i hi _=>h.block i (Nat.lt_of_lt_of_le hi f)⟩
theorem Upd2.setCell {T:TypeId}{c b:Nat}(w:World){p:Addr}(hp:c<=p.block)(f:p.block<b∨OfTy w p.block T)(v:Value):Upd2 T c b w (w.setCell p v) :=
 ⟨rfl,rfl,rfl,by simp[World.setCell],fun k _ d=>Below.heap_setCell _ _ _ _ (fun e=>by
  subst e;rcases d with h | ⟨h,hn⟩
  ·omega
  ·exact hn (f.resolve_left (by omega)))⟩
structure Itr (B:TypeId)(n:Nat)(w w':World):Prop where
 low:Below n w w'
 keep:∀ (k:Nat) (c:Array Value) (e:TypeId) (z:Nat × Nat),w.heap[k]?=some (Obj.cells c e z)->e≠B->w'.heap[k]?=w.heap[k]?
theorem Itr.refl (B:TypeId)(n:Nat)(w:World):Itr B n w w:=⟨Below.refl _ _,fun _ _ _ _ _ _=>rfl⟩
theorem Itr.of_below {B:TypeId}{n m:Nat}{w b:World}(h:Below m w b)(d:w.heap.size<=m)(hn:n<=m):Itr B n w b :=
 ⟨h.mono hn,fun k _ _ _ c _=>h.block k (Nat.lt_of_lt_of_le (Array.getElem?_eq_some_iff.1 c).1 d)⟩
theorem Itr.mono {B:TypeId}{n m:Nat}{w b:World}(h:Itr B n w b)(c:m<=n):Itr B m w b:=⟨h.low.mono c,h.keep⟩
theorem Itr.setCell {B:TypeId}{n:Nat}(w:World){p:Addr}(hn:n<=p.block)(g:OfTy w p.block B)(v:Value):Itr B n w (w.setCell p v) :=
 ⟨(Below.refl n w).setCell hn v,fun k c e z f d=>Below.heap_setCell _ _ _ _ (fun h=>by
  obtain⟨c',z',b⟩:=g;rw[<-h,f] at b;cases b
  exact d rfl)⟩
theorem Itr.putObj {B:TypeId}{n:Nat}(w:World){l:Nat}(hn:n<=l)(f:l<w.heap.size)(d:∀ (c:Array Value) (e:TypeId) (z:Nat × Nat),w.heap[l]?≠some (Obj.cells c e z))(o:Obj):Itr B n w (w.putObj l o) :=
 ⟨cT w hn f o,fun k c e z b _=>World.putObj_heap_other (fun h=>by subst h;exact d _ _ _ b)⟩
def SeqT2 {c:Type}(T B:TypeId)(F:Fence)(n:Nat)(P:Program)(g:Nat)(k:Array Value)(i:c->Array Value)(o:List c->c->Prop)(h:Nat)(S m:List c->Prop)(w:World):Prop :=
 ∀ (l:Nat) (J f:List c->World->Prop) (W:World),Below w.heap.size w W->(∀ s A C,J s A->Itr B W.heap.size A C->J s C)->(∀ s A C,f s A->Itr B W.heap.size A C->f s C) ->
  (∀ pre x d,o pre x->J pre d->W.heap.size<=d.heap.size->YieldAt F (n - 1) P l (i x) d fun e b =>
   (e=.returned (.bool true)/\J (pre++[x]) b/\Upd2 T h W.heap.size d b)∨(e=.returned (.bool false)/\f (pre++[x]) b)) ->
  J [] W ->
  CallsIn F n P g (#[.func (.yield l) #[] #[]]++k) W fun e b=>(∃ v,e=.returned v)/\((∃ j,S j/\J j b)∨(∃ pre,m pre/\f pre b))
theorem YieldAt.mono2 {F:Fence}{m:Nat}{P:Program}{l:Nat}{args:Array Value}{W:World}{R b:Ending->World->Prop}(h:YieldAt F m P l args W R)(hR:∀ e c,R e c->b e c):YieldAt F m P l args W b:=by obtain⟨fn,tmps,assign,body,d,f⟩:=h;exact⟨fn,tmps,assign,body,d,f.mono hR⟩
theorem SeqT2.plain {f:Type}{T B:TypeId}{F:Fence}{n:Nat}{P:Program}{g:Nat}{m:Array Value}{d:f->Array Value}{r:List f->f->Prop}{j:f->Prop}{i:Nat}{S o:List f->Prop}{N:Nat}{w:World}(h:SeqT2 T B F n P g m d r i S o w)(q:∀ pre x,r pre x->j x/\pre.length<N):vk F n P g m d j i S o N w :=
 fun l J z W K I t u y=>h l J z W K (fun s A C k hi=>I s A C k hi.low) (fun s A C k hi=>t s A C k hi.low) (fun pre x D p G H=>YieldAt.mono2 (u pre x D (q pre x p).1 G (q pre x p).2 H) fun _ _ E=>E.imp (fun⟨a,b,c⟩=>⟨a,b,c.two T⟩) id) y
end Go.Proofs.YtkophfgkcijjkaaGreatDoor.Ca
