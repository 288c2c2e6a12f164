import Derived.RangeFuncKeeps
import Derived.RangeFuncFrom
open Option renaming none->Z,some->T
open Go renaming World->E,Value->ZB,TypeId->ZH,Value.bool->ZC,Ending.returned->ZF,World.heap->J
open Array renaming size->I
namespace Go.Proofs.YtamacmnikdejeaaGreatDoor.Ca
open RowKit
variable {w b a:E}{n l ZN f g m:Nat}{P:Nat->Prop}{e ZL:ZH}{p:Addr}
structure Upd (P:Nat->Prop)(w w':E):Prop where
 os:w'.os=w.os
 tape:w'.tape=w.tape
 output:w'.output=w.output
 size:I (J w)<=I (J w')
 block:∀k,k<I (J w)->¬ P k->w'.heap[k]?=w.heap[k]?
theorem Upd.refl (P:Nat->Prop)(w:E):Upd P w w:=⟨rfl,rfl,rfl,Nat.le_refl _,λ_ _ _=>rfl⟩
theorem Upd.trans{c:E}(h:Upd P a b)(k:Upd P b c):Upd P a c :=
 ⟨k.os.trans h.os,k.tape.trans h.tape,k.output.trans h.output,Nat.le_trans h.size k.size,λi hi f=>(k.block i (Nat.lt_of_lt_of_le hi h.size) f).trans (h.block i hi f)⟩
theorem Upd.mono{ZM:Nat->Prop}(h:Upd P a b)(f:∀k,P k->ZM k):Upd ZM a b :=
 ⟨h.os,h.tape,h.output,h.size,λi hi g=>h.block i hi (λj=>g (f i j))⟩
theorem Upd.setCell (w:E)(f:P p.block)(v:ZB):Upd P w (w.setCell p v) :=
 ⟨rfl,rfl,rfl,by simp[World.setCell],λk _ b=>Below.heap_setCell _ _ _ _ (λe=>b (e ▸ f))⟩
theorem Upd.putObj (w:E)(f:P l)(o:Obj):Upd P w (w.putObj l o) :=
 ⟨rfl,rfl,rfl,by simp,λk _ b=>World.putObj_heap_other (λe=>b (e ▸ f))⟩
theorem dE (w:E)(hn:n<=l)(hl:l<I (J w))(o:Obj):Below n w (w.putObj l o) :=
 (Below.refl n w).grown (grownBy_putObj' w l o) (by omega) (λk e=>by cases e;exact hn)
def Bd {h:Type}(F:Fence)(n:Nat)(P:Program)(g:Nat)(r:Array ZB)(m:h->Array ZB)(p:h->Prop)(j:Nat)(S q:List h->Prop)(ZN:Nat)(w:E):Prop :=
 ∀(l:Nat) (ZO i:List h->E->Prop) (W:E),Below (I (J w)) w W->(∀s A B,ZO s A->Below (I (J W)) A B->ZO s B)->(∀s A B,i s A->Below (I (J W)) A B->i s B) ->
  (∀pre x f,p x->ZO pre f->pre.length<ZN->I (J W)<=I (J f)->YieldAt F (n - 1) P l (m x) f λe b =>
   (e=ZF (ZC true)/\ZO (pre++[x]) b/\Upd (λk=>j<=k/\k<I (J W)) f b)∨(e=ZF (ZC false)/\i (pre++[x]) b)) ->
  ZO [] W ->
  CallsIn F n P g (#[.func (.yield l) #[] #[]]++r) W λe b=>(∃v,e=ZF v)/\((∃o,S o/\ZO o b)∨(∃pre,q pre/\i pre b))
def GC {i:Type}(b f:Nat)(ZP:List i->E->Prop)(h:Code->List i->E->Prop)(g:List i)(W:E):Exit->Act->E->Prop
 |.normal,_,W'=>Upd (λk=>b<=k/\k<f) W W'/\ZP g W'
 |.ret,_,W'=>Upd (λk=>b<=k/\k<f) W W'/\h .ret g W'
 |.exit id,_,W'=>Upd (λk=>b<=k/\k<f) W W'/\h (.exit id) g W'
 |.goto t,_,W'=>Upd (λk=>b<=k/\k<f) W W'/\h (.goto t) g W'
 |.panic _,_,_=>False
 |.outgrown,_,_=>False
theorem iZ{F:Fence}{P:Program}{y:Type}{g:Operand}{ps:Array Tmp}{assign body:Code}{ZM:Exit->Act->E->Prop}{a:Act}
  (n8:F.round=Z) (h1:1<=n) {gf:Nat} {lb:Array ZB} (hg:a.eval g=.func (.func gf) #[] lb) (n7:F.fn gf) (eg:∀args w,(callFunc gf args).run P w=.ok (.enter gf args) w)
  {C:y->Array ZB} {Ox:y->Prop} {base:Nat} {S Sp:List y->Prop}  {ZK:E} (hbase:base<=I (J w)) (n6:Bd F (n - 1) P gf lb C Ox base S Sp ZN ZK) (la:Below (I (J ZK)) ZK w) (Bk:∀x,(C x).size=ps.size)
  (ZP:List y->E->Prop) (ZL:Code->List y->E->Prop) (X:∀s A B,ZP s A->Below (I (J w)) A B->ZP s B) (G:∀c s A B,ZL c s A->Below (I (J w)) A B->ZL c s B) (h0:ZP [] w) (O:y->Act)
  (M:∀(l:Nat) (x:y) (W:E) (K:Act->E->Prop),K (O x) W ->
   assign.wpIn (F.inRound l) (n - 1 - 1) P (Exit.then K (λ_ _ _=>False)) { tmps:=(ps.zip (C x)).foldl (λt (p,v)=>t.setIfInBounds p v) a.tmps,defers:=[] } W)
  (ZJ:∀(l:Nat) (pre:List y) (x:y) (W:E),Ox x->ZP pre W->pre.length<ZN->I (J w)<=I (J W)->body.wpIn (F.inRound l) (n - 1 - 1) P (GC base (I (J w)) ZP ZL (pre++[x]) W) (O x) W)
  (bt:∀(D:Nat) (xs:List y) (W:E),I (J w)<=D->S xs->ZP xs W->W.heap[D]?=T (.deferred (T []))->ZM .normal { a with defers:={ target:=.collected D,args:=#[] } :: a.defers } W)
  (aq:∀(D:Nat) (c:Code) (pre:List y) (W:E),I (J w)<=D->Sp pre->ZL c pre W->W.heap[D]?=T (.deferred (T []))->c.wpIn F n P ZM { a with defers:={ target:=.collected D,args:=#[] } :: a.defers } W) :
  (Code.rangeFunc g ps assign body).wpIn F n P ZM a w:=by
 refine wpIn_rangeFunc ?_;intro fn DQ;rw[n8];obtain⟨b,f⟩:∃b:LoopState->Option Code->Loop,b=λst pe=>{ state:=st,pending:=pe,fn,tmps:=a.tmps,params:=ps,assign,body,defers:=I (J w) }:=⟨_,rfl⟩
 obtain⟨j,ZQ⟩:∃j,(w.alloc (.deferred (T []))).alloc (.loop (b .ready Z))=j:=⟨_,rfl⟩
 have hs1:I (J j)=I (J w)+2:=by rw[<-ZQ];simp
 have ph:j.heap[I (J w)+1]?=T (.loop (b .ready Z)):=by rw[<-ZQ];have:=World.alloc_heap_new (w.alloc (.deferred (T []))) (.loop (b .ready Z));rwa[World.size_alloc] at this
 have ro:j.heap[I (J w)]?=T (.deferred (T [])):=by rw[<-ZQ];exact(Below.heap_alloc _ _ _ (by simp)).trans (World.alloc_heap_new w _)
 have fd:Below (I (J w)) w j:=by rw[<-ZQ];exact((Below.refl _ w).alloc (Nat.le_refl _) _).alloc (by simp) _
 have sm:ZP [] j:=X _ _ _ h0 fd;have n9:Below (I (J ZK)) ZK j:=la.trans (fd.mono la.size)
 refine⟨I (J w)+1,[{ target:=.collected (I (J w)),args:=#[] }],j,{ target:=.fn (.func gf) lb,args:=#[.func (.yield (I (J w)+1)) #[] #[]] },j,gf,
  #[.func (.yield (I (J w)+1)) #[] #[]]++lb,j,?_,?_,?_,?_,λ_=>h1,?_⟩
 {rw[<-ZQ,f];exact run_enterLoop_outer _ _ _ _ _};{simp only[resolve,hg];simp[go_sem]};{intro f' ld;simp[Target.leads] at ld;subst ld;exact n7};{simp[invoke,go_sem,eg]}
 ·refine(n6 (I (J w)+1)
   (λpre W=>ZP pre W/\W.heap[I (J w)+1]?=T (.loop (b .ready Z))/\W.heap[I (J w)]?=T (.deferred (T [])))
   (λpre W=>∃c,ZL c pre W/\W.heap[I (J w)+1]?=T (.loop (b .done (T c)))/\W.heap[I (J w)]?=T (.deferred (T [])))
   j n9
   (λs A B V ZO=>⟨X s A B V.1 (ZO.mono (by omega)),(ZO.block _ (by omega)).trans V.2.1,(ZO.block _ (by omega)).trans V.2.2⟩)
   (λs A B V ZO=>by
    obtain⟨c,hc,o,z⟩:=V
    exact⟨c,G c s A B hc (ZO.mono (by omega)),(ZO.block _ (by omega)).trans o,(ZO.block _ (by omega)).trans z⟩)
   ?_ ⟨sm,ph,ro⟩).mono ?_
  ·-- one round
   rintro pre x W ur ⟨hi,o,z⟩ mv _;have ZI:I (J w)+1<I (J W):=(Array.getElem?_eq_some_iff.1 o).1;have hy:=run_yield (P:=P) (args:=C x) o (by rw[f];exact Bk x);rw[f] at hy;refine⟨fn,_,assign,body,hy,roundIn_of_wpIn DQ (M _ x W _ ⟨_,run_beginRound o (by rw[f]),?_⟩)⟩;have qr:(W.putObj (I (J w)+1) (.loop { b .ready Z with state:=.busy })).heap[I (J w)+1]?=T (.loop { b .ready Z with state:=.busy }):=World.putObj_heap_same ZI;have DE:(W.putObj (I (J w)+1) (.loop { b .ready Z with state:=.busy })).heap[I (J w)]?=T (.deferred (T [])):=(World.putObj_heap_other (by omega)).trans z;have At:Upd (λk=>base<=k/\k<I (J j)) W (W.putObj (I (J w)+1) (.loop { b .ready Z with state:=.busy })):=Upd.putObj _ ⟨by omega,by omega⟩ _;refine wpIn_mono (ZJ _ pre x _ ur (X _ _ _ hi (dE _ (by omega) ZI _)) mv (by simp;omega)) ?_;have fin:∀(jump:Option Code) (m:E),Upd (λk=>base<=k/\k<I (J w)) (W.putObj (I (J w)+1) (.loop { b .ready Z with state:=.busy })) m ->
     (Instr.endRound (I (J w)+1) jump).run P m=.ok (ZC jump.isNone) (m.putObj (I (J w)+1) (.loop (b (if jump.isNone then .ready else .done) jump))) /\
     Below (I (J w)) m (m.putObj (I (J w)+1) (.loop (b (if jump.isNone then .ready else .done) jump))) /\
     (m.putObj (I (J w)+1) (.loop (b (if jump.isNone then .ready else .done) jump))).heap[I (J w)+1]?=T (.loop (b (if jump.isNone then .ready else .done) jump)) /\
     (m.putObj (I (J w)+1) (.loop (b (if jump.isNone then .ready else .done) jump))).heap[I (J w)]?=T (.deferred (T [])):=λjump m h=>by
    have ex:=(h.block _ (by simpa using ZI) (by omega)).trans qr;have i:=(h.block _ (by simp;omega) (by omega)).trans DE;have R:=(Array.getElem?_eq_some_iff.1 ex).1;have:=run_endRound (P:=P) jump ex;rw[f] at this ⊢;exact⟨this,dE _ (by omega) R _,World.putObj_heap_same R,(World.putObj_heap_other (by omega)).trans i⟩
   rintro e a3 m L;cases e with
   |normal =>obtain⟨h,q⟩:=L;obtain⟨H,u,r,i⟩:=fin Z m h;exact⟨_,_,H,.inl ⟨rfl,⟨X _ _ _ q u,r,i⟩,(At.trans (h.mono (λk z=>⟨z.1,by omega⟩))).trans (Upd.putObj _ ⟨by omega,by omega⟩ _)⟩⟩
   |ret =>obtain⟨h,q⟩:=L;obtain⟨H,u,r,i⟩:=fin (T .ret) m h;exact⟨_,_,H,.inr ⟨rfl,.ret,G _ _ _ _ q u,r,i⟩⟩
   |exit id =>obtain⟨h,q⟩:=L;obtain⟨H,u,r,i⟩:=fin (T (.exit id)) m h;exact⟨_,_,H,.inr ⟨rfl,.exit id,G _ _ _ _ q u,r,i⟩⟩
   |goto t =>obtain⟨h,q⟩:=L;obtain⟨H,u,r,i⟩:=fin (T (.goto t)) m h;exact⟨_,_,H,.inr ⟨rfl,.goto t,G _ _ _ _ q u,r,i⟩⟩
   |panic ch=>exact L.elim
   |outgrown=>exact L.elim
  {rintro e W2 ⟨⟨v,rfl⟩,(⟨xs,hS,hi,o,z⟩|⟨pre,th,c,hi,o,z⟩)⟩;{exact⟨Z,_,by have:=run_endLoop (P:=P) o (by rw[f];simp);rw[f] at this;exact this,bt _ xs _ (Nat.le_refl _) hS (X _ _ _ hi (dE _ (by omega) (Array.getElem?_eq_some_iff.1 o).1 _)) ((World.putObj_heap_other (by omega)).trans z)⟩};{exact⟨T c,_,by have:=run_endLoop (P:=P) o (by rw[f];simp);rw[f] at this;exact this,aq _ c pre _ (Nat.le_refl _) th (G _ _ _ _ hi (dE _ (by omega) (Array.getElem?_eq_some_iff.1 o).1 _)) ((World.putObj_heap_other (by omega)).trans z)⟩}}
def OfTy (w:E)(k:Nat)(e:ZH):Prop:=∃c z,w.heap[k]?=T (.cells c e z)
theorem OfTy.eq{k:Nat}(h:OfTy w k e)(hb:b.heap[k]?=w.heap[k]?):OfTy b k e:=by obtain⟨c,z,h⟩:=h;exact⟨c,z,hb.trans h⟩
theorem OfTy.ne{k:Nat}{b:ZH}(h:OfTy w k e)(hn:b≠e):¬ OfTy w k b:=by
 obtain⟨c,z,h⟩:=h;rintro⟨c',z',f⟩;rw[h] at f;cases f
 exact hn rfl
theorem OfTy.set{k:Nat}(h:OfTy w k e)(p:Addr)(v:ZB):OfTy (w.setCell p v) k e:=by
 obtain⟨c,z,h⟩:=h;by_cases b:p.block=k;{subst b;have hlt:=(Array.getElem?_eq_some_iff.1 h).1;have he:=(Array.getElem?_eq_some_iff.1 h).2;exact⟨if p.spot.isSome=true then c else c.setIfInBounds p.off v,z,by simp[World.setCell,Array.getElem?_modify,h]⟩};{exact⟨c,z,(Below.heap_setCell _ _ _ _ (λe=>b e.symm)).trans h⟩}
theorem OfTy.new (w:E)(c:Array ZB)(e:ZH):OfTy (w.alloc (.cells c e)) (I (J w)) e:=⟨c,_,World.alloc_heap_new w _⟩
structure Upd2 (ZL:ZH)(base n₀:Nat)(w w':E):Prop where
 os:w'.os=w.os
 tape:w'.tape=w.tape
 output:w'.output=w.output
 size:I (J w)<=I (J w')
 block:∀k,k<I (J w)->(k<base∨(n₀<=k/\¬ OfTy w k ZL))->w'.heap[k]?=w.heap[k]?
theorem Upd.two{b:Nat}{g:E}(h:Upd (λk=>b<=k/\k<f) w g)(ZL:ZH):Upd2 ZL b f w g:=⟨h.os,h.tape,h.output,h.size,λk i hp=>h.block k i (by omega)⟩
theorem Upd2.aa (h:Upd2 ZL f g a b)(hb:f<=I (J a)):Below f a b:=⟨h.os,h.tape,h.output,h.size,λk i=>h.block k (by omega) (.inl i)⟩
structure Itr (B:ZH)(n:Nat)(w w':E):Prop where
 low:Below n w w'
 keep:∀(k:Nat) (c:Array ZB) (e:ZH) (z:Nat × Nat),w.heap[k]?=T (Obj.cells c e z)->e≠B->w'.heap[k]?=w.heap[k]?
theorem Itr.q{B:ZH}(h:Below m w b)(g:I (J w)<=m)(hn:n<=m):Itr B n w b :=
 ⟨h.mono hn,λk _ _ _ f _=>h.block k (Nat.lt_of_lt_of_le (Array.getElem?_eq_some_iff.1 f).1 g)⟩
theorem Itr.setCell{B:ZH}(w:E)(hn:n<=p.block)(f:OfTy w p.block B)(v:ZB):Itr B n w (w.setCell p v) :=
 ⟨(Below.refl n w).setCell hn v,λk c e z g i=>Below.heap_setCell _ _ _ _ (λh=>by
  obtain⟨c',z',b⟩:=f;rw[<-h,g] at b;cases b
  exact i rfl)⟩
def SeqT2 {f:Type}(ZL B:ZH)(F:Fence)(n:Nat)(P:Program)(g:Nat)(r:Array ZB)(m:f->Array ZB)(p:List f->f->Prop)(j:Nat)(S q:List f->Prop)(w:E):Prop :=
 ∀(l:Nat) (ZO i:List f->E->Prop) (W:E),Below (I (J w)) w W->(∀s A C,ZO s A->Itr B (I (J W)) A C->ZO s C)->(∀s A C,i s A->Itr B (I (J W)) A C->i s C) ->
  (∀pre x h,p pre x->ZO pre h->I (J W)<=I (J h)->YieldAt F (n - 1) P l (m x) h λe b =>
   (e=ZF (ZC true)/\ZO (pre++[x]) b/\Upd2 ZL j (I (J W)) h b)∨(e=ZF (ZC false)/\i (pre++[x]) b)) ->
  ZO [] W ->
  CallsIn F n P g (#[.func (.yield l) #[] #[]]++r) W λe b=>(∃v,e=ZF v)/\((∃o,S o/\ZO o b)∨(∃pre,q pre/\i pre b))
theorem YieldAt.mono2{F:Fence}{P:Program}{args:Array ZB}{W:E}{R f:Ending->E->Prop}(h:YieldAt F m P l args W R)(hR:∀e b,R e b->f e b):YieldAt F m P l args W f:=by obtain⟨fn,tmps,assign,body,i,g⟩:=h;exact⟨fn,tmps,assign,body,i,g.mono hR⟩
theorem SeqT2.plain{f:Type}{B:ZH}{F:Fence}{P:Program}{t:Array ZB}{j:f->Array ZB}{p:List f->f->Prop}{m:f->Prop}{i:Nat}{S q:List f->Prop}(h:SeqT2 ZL B F n P g t j p i S q w)(r:∀pre x,p pre x->m x/\pre.length<ZN):Bd F n P g t j m i S q ZN w :=
 λl ZO ZP W G H u z K=>h l ZO ZP W G (λs A C o hi=>H s A C o hi.low) (λs A C o hi=>u s A C o hi.low) (λpre x D h1 h2 ZQ=>YieldAt.mono2 (z pre x D (r pre x h1).1 h2 (r pre x h1).2 ZQ) λ_ _ y=>y.imp (λ⟨a,b,c⟩=>⟨a,b,c.two ZL⟩) id) K
