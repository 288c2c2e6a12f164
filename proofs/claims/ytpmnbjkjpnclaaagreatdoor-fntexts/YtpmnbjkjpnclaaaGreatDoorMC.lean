import Derived.RangeFuncKeeps
import Derived.RangeFuncFrom
open Option renaming none->Z,some->T
open Go renaming World->M,Value->ZB,TypeId->ZH,Value.bool->ZC,Ending.returned->ZD,World.heap->J
open Array renaming size->I
namespace Go.Proofs.YtpmnbjkjpnclaaaGreatDoor.Ca
open RowKit
variable {w b a:M}{n l ZM f g m:Nat}{P:Nat->Prop}{e ZL:ZH}{p:Addr}
structure Upd (P:Nat->Prop)(w w':M):Prop where
 os:w'.os=w.os
 tape:w'.tape=w.tape
 output:w'.output=w.output
 size:I (J w)<=I (J w')
 block:∀k,k<I (J w)->¬ P k->w'.heap[k]?=w.heap[k]?
theorem Upd.refl (P:Nat->Prop)(w:M):Upd P w w:=⟨rfl,rfl,rfl,Nat.le_refl _,λ_ _ _=>rfl⟩
theorem Upd.trans{c:M}(h:Upd P a b)(k:Upd P b c):Upd P a c :=
 ⟨k.os.trans h.os,k.tape.trans h.tape,k.output.trans h.output,Nat.le_trans h.size k.size,λi hi f=>(k.block i (Nat.lt_of_lt_of_le hi h.size) f).trans (h.block i hi f)⟩
theorem Upd.mono{ZN:Nat->Prop}(h:Upd P a b)(f:∀k,P k->ZN k):Upd ZN a b :=
 ⟨h.os,h.tape,h.output,h.size,λi hi g=>h.block i hi (λj=>g (f i j))⟩
theorem Upd.setCell (w:M)(f:P p.block)(v:ZB):Upd P w (w.setCell p v) :=
 ⟨rfl,rfl,rfl,by simp[World.setCell],λk _ b=>Below.heap_setCell _ _ _ _ (λe=>b (e ▸ f))⟩
theorem Upd.putObj (w:M)(f:P l)(o:Obj):Upd P w (w.putObj l o) :=
 ⟨rfl,rfl,rfl,by simp,λk _ b=>World.putObj_heap_other (λe=>b (e ▸ f))⟩
theorem dh (w:M)(hn:n<=l)(hl:l<I (J w))(o:Obj):Below n w (w.putObj l o) :=
 (Below.refl n w).grown (grownBy_putObj' w l o) (by omega) (λk e=>by cases e;exact hn)
def zq {f:Type}(F:Fence)(n:Nat)(P:Program)(g:Nat)(r:Array ZB)(j:f->Array ZB)(q:f->Prop)(m:Nat)(S p:List f->Prop)(ZM:Nat)(w:M):Prop :=
 ∀(l:Nat) (ZO i:List f->M->Prop) (W:M),Below (I (J w)) w W->(∀s A B,ZO s A->Below (I (J W)) A B->ZO s B)->(∀s A B,i s A->Below (I (J W)) A B->i s B) ->
  (∀pre x h,q x->ZO pre h->pre.length<ZM->I (J W)<=I (J h)->YieldAt F (n - 1) P l (j x) h λe b =>
   (e=ZD (ZC true)/\ZO (pre++[x]) b/\Upd (λk=>m<=k/\k<I (J W)) h b)∨(e=ZD (ZC false)/\i (pre++[x]) b)) ->
  ZO [] W ->
  CallsIn F n P g (#[.func (.yield l) #[] #[]]++r) W λe b=>(∃v,e=ZD v)/\((∃o,S o/\ZO o b)∨(∃pre,p pre/\i pre b))
def Fj {h:Type}(f b:Nat)(ZP:List h->M->Prop)(i:Code->List h->M->Prop)(g:List h)(W:M):Exit->Act->M->Prop
 |.normal,_,W'=>Upd (λk=>f<=k/\k<b) W W'/\ZP g W'
 |.ret,_,W'=>Upd (λk=>f<=k/\k<b) W W'/\i .ret g W'
 |.exit id,_,W'=>Upd (λk=>f<=k/\k<b) W W'/\i (.exit id) g W'
 |.goto t,_,W'=>Upd (λk=>f<=k/\k<b) W W'/\i (.goto t) g W'
 |.panic _,_,_=>False
 |.outgrown,_,_=>False
theorem iG{F:Fence}{P:Program}{o:Type}{g:Operand}{ZJ:Array Tmp}{assign body:Code}{ZN:Exit->Act->M->Prop}{a:Act}
  (th:F.round=Z) (h1:1<=n) {gf:Nat} {lb:Array ZB} (hg:a.eval g=.func (.func gf) #[] lb) (At:F.fn gf) (eg:∀args w,(callFunc gf args).run P w=.ok (.enter gf args) w)
  {C:o->Array ZB} {Ox:o->Prop} {base:Nat} {S Sp:List o->Prop}  {V:M} (hbase:base<=I (J w)) (ph:zq F (n - 1) P gf lb C Ox base S Sp ZM V) (mv:Below (I (J V)) V w) (ur:∀x,(C x).size=ZJ.size)
  (ZP:List o->M->Prop) (ZI:Code->List o->M->Prop) (O:∀s A B,ZP s A->Below (I (J w)) A B->ZP s B) (E:∀c s A B,ZI c s A->Below (I (J w)) A B->ZI c s B) (h0:ZP [] w) (ZK:o->Act)
  (ZQ:∀(l:Nat) (x:o) (W:M) (K:Act->M->Prop),K (ZK x) W ->
   assign.wpIn (F.inRound l) (n - 1 - 1) P (Exit.then K (λ_ _ _=>False)) { tmps:=(ZJ.zip (C x)).foldl (λt (p,v)=>t.setIfInBounds p v) a.tmps,defers:=[] } W)
  (ex:∀(l:Nat) (pre:List o) (x:o) (W:M),Ox x->ZP pre W->pre.length<ZM->I (J w)<=I (J W)->body.wpIn (F.inRound l) (n - 1 - 1) P (Fj base (I (J w)) ZP ZI (pre++[x]) W) (ZK x) W)
  (aq:∀(D:Nat) (xs:List o) (W:M),I (J w)<=D->S xs->ZP xs W->W.heap[D]?=T (.deferred (T []))->ZN .normal { a with defers:={ target:=.collected D,args:=#[] } :: a.defers } W)
  (bt:∀(D:Nat) (c:Code) (pre:List o) (W:M),I (J w)<=D->Sp pre->ZI c pre W->W.heap[D]?=T (.deferred (T []))->c.wpIn F n P ZN { a with defers:={ target:=.collected D,args:=#[] } :: a.defers } W) :
  (Code.rangeFunc g ZJ assign body).wpIn F n P ZN a w:=by
 refine wpIn_rangeFunc ?_;intro fn qr;rw[th];obtain⟨b,f⟩:∃b:LoopState->Option Code->Loop,b=λst pe=>{ state:=st,pending:=pe,fn,tmps:=a.tmps,params:=ZJ,assign,body,defers:=I (J w) }:=⟨_,rfl⟩
 obtain⟨m,G⟩:∃m,(w.alloc (.deferred (T []))).alloc (.loop (b .ready Z))=m:=⟨_,rfl⟩
 have hs1:I (J m)=I (J w)+2:=by rw[<-G];simp
 have Bk:m.heap[I (J w)+1]?=T (.loop (b .ready Z)):=by rw[<-G];have:=World.alloc_heap_new (w.alloc (.deferred (T []))) (.loop (b .ready Z));rwa[World.size_alloc] at this
 have DE:m.heap[I (J w)]?=T (.deferred (T [])):=by rw[<-G];exact(Below.heap_alloc _ _ _ (by simp)).trans (World.alloc_heap_new w _)
 have fd:Below (I (J w)) w m:=by rw[<-G];exact((Below.refl _ w).alloc (Nat.le_refl _) _).alloc (by simp) _
 have Fk:ZP [] m:=O _ _ _ h0 fd;have DS:Below (I (J V)) V m:=mv.trans (fd.mono mv.size)
 refine⟨I (J w)+1,[{ target:=.collected (I (J w)),args:=#[] }],m,{ target:=.fn (.func gf) lb,args:=#[.func (.yield (I (J w)+1)) #[] #[]] },m,gf,
  #[.func (.yield (I (J w)+1)) #[] #[]]++lb,m,?_,?_,?_,?_,λ_=>h1,?_⟩
 {rw[<-G,f];exact run_enterLoop_outer _ _ _ _ _};{simp only[resolve,hg];simp[go_sem]};{intro f' n8;simp[Target.leads] at n8;subst n8;exact At};{simp[invoke,go_sem,eg]}
 ·refine(ph (I (J w)+1)
   (λpre W=>ZP pre W/\W.heap[I (J w)+1]?=T (.loop (b .ready Z))/\W.heap[I (J w)]?=T (.deferred (T [])))
   (λpre W=>∃c,ZI c pre W/\W.heap[I (J w)+1]?=T (.loop (b .done (T c)))/\W.heap[I (J w)]?=T (.deferred (T [])))
   m DS
   (λs A B ZL ZO=>⟨O s A B ZL.1 (ZO.mono (by omega)),(ZO.block _ (by omega)).trans ZL.2.1,(ZO.block _ (by omega)).trans ZL.2.2⟩)
   (λs A B ZL ZO=>by
    obtain⟨c,hc,u,z⟩:=ZL
    exact⟨c,E c s A B hc (ZO.mono (by omega)),(ZO.block _ (by omega)).trans u,(ZO.block _ (by omega)).trans z⟩)
   ?_ ⟨Fk,Bk,DE⟩).mono ?_
  ·-- one round
   rintro pre x W ro ⟨hi,u,z⟩ n9 _;have R:I (J w)+1<I (J W):=(Array.getElem?_eq_some_iff.1 u).1;have hy:=run_yield (P:=P) (args:=C x) u (by rw[f];exact ur x);rw[f] at hy;refine⟨fn,_,assign,body,hy,roundIn_of_wpIn qr (ZQ _ x W _ ⟨_,run_beginRound u (by rw[f]),?_⟩)⟩;have CD:(W.putObj (I (J w)+1) (.loop { b .ready Z with state:=.busy })).heap[I (J w)+1]?=T (.loop { b .ready Z with state:=.busy }):=World.putObj_heap_same R;have sm:(W.putObj (I (J w)+1) (.loop { b .ready Z with state:=.busy })).heap[I (J w)]?=T (.deferred (T [])):=(World.putObj_heap_other (by omega)).trans z;have Fd:Upd (λk=>base<=k/\k<I (J m)) W (W.putObj (I (J w)+1) (.loop { b .ready Z with state:=.busy })):=Upd.putObj _ ⟨by omega,by omega⟩ _;refine wpIn_mono (ex _ pre x _ ro (O _ _ _ hi (dh _ (by omega) R _)) n9 (by simp;omega)) ?_;have fin:∀(jump:Option Code) (j:M),Upd (λk=>base<=k/\k<I (J w)) (W.putObj (I (J w)+1) (.loop { b .ready Z with state:=.busy })) j ->
     (Instr.endRound (I (J w)+1) jump).run P j=.ok (ZC jump.isNone) (j.putObj (I (J w)+1) (.loop (b (if jump.isNone then .ready else .done) jump))) /\
     Below (I (J w)) j (j.putObj (I (J w)+1) (.loop (b (if jump.isNone then .ready else .done) jump))) /\
     (j.putObj (I (J w)+1) (.loop (b (if jump.isNone then .ready else .done) jump))).heap[I (J w)+1]?=T (.loop (b (if jump.isNone then .ready else .done) jump)) /\
     (j.putObj (I (J w)+1) (.loop (b (if jump.isNone then .ready else .done) jump))).heap[I (J w)]?=T (.deferred (T [])):=λjump j h=>by
    have ld:=(h.block _ (by simpa using R) (by omega)).trans CD;have i:=(h.block _ (by simp;omega) (by omega)).trans sm;have X:=(Array.getElem?_eq_some_iff.1 ld).1;have:=run_endRound (P:=P) jump ld;rw[f] at this ⊢;exact⟨this,dh _ (by omega) X _,World.putObj_heap_same X,(World.putObj_heap_other (by omega)).trans i⟩
   rintro e a3 j L;cases e with
   |normal =>obtain⟨h,q⟩:=L;obtain⟨H,y,r,i⟩:=fin Z j h;exact⟨_,_,H,.inl ⟨rfl,⟨O _ _ _ q y,r,i⟩,(Fd.trans (h.mono (λk z=>⟨z.1,by omega⟩))).trans (Upd.putObj _ ⟨by omega,by omega⟩ _)⟩⟩
   |ret =>obtain⟨h,q⟩:=L;obtain⟨H,y,r,i⟩:=fin (T .ret) j h;exact⟨_,_,H,.inr ⟨rfl,.ret,E _ _ _ _ q y,r,i⟩⟩
   |exit id =>obtain⟨h,q⟩:=L;obtain⟨H,y,r,i⟩:=fin (T (.exit id)) j h;exact⟨_,_,H,.inr ⟨rfl,.exit id,E _ _ _ _ q y,r,i⟩⟩
   |goto t =>obtain⟨h,q⟩:=L;obtain⟨H,y,r,i⟩:=fin (T (.goto t)) j h;exact⟨_,_,H,.inr ⟨rfl,.goto t,E _ _ _ _ q y,r,i⟩⟩
   |panic ch=>exact L.elim
   |outgrown=>exact L.elim
  {rintro e W2 ⟨⟨v,rfl⟩,(⟨xs,hS,hi,u,z⟩|⟨pre,DQ,c,hi,u,z⟩)⟩;{exact⟨Z,_,by have:=run_endLoop (P:=P) u (by rw[f];simp);rw[f] at this;exact this,aq _ xs _ (Nat.le_refl _) hS (O _ _ _ hi (dh _ (by omega) (Array.getElem?_eq_some_iff.1 u).1 _)) ((World.putObj_heap_other (by omega)).trans z)⟩};{exact⟨T c,_,by have:=run_endLoop (P:=P) u (by rw[f];simp);rw[f] at this;exact this,bt _ c pre _ (Nat.le_refl _) DQ (E _ _ _ _ hi (dh _ (by omega) (Array.getElem?_eq_some_iff.1 u).1 _)) ((World.putObj_heap_other (by omega)).trans z)⟩}}
def OfTy (w:M)(k:Nat)(e:ZH):Prop:=∃c z,w.heap[k]?=T (.cells c e z)
theorem OfTy.eq{k:Nat}(h:OfTy w k e)(hb:b.heap[k]?=w.heap[k]?):OfTy b k e:=by obtain⟨c,z,h⟩:=h;exact⟨c,z,hb.trans h⟩
theorem OfTy.ne{k:Nat}{f:ZH}(h:OfTy w k e)(hn:f≠e):¬ OfTy w k f:=by
 obtain⟨c,z,h⟩:=h;rintro⟨c',z',b⟩;rw[h] at b;cases b
 exact hn rfl
theorem OfTy.set{k:Nat}(h:OfTy w k e)(p:Addr)(v:ZB):OfTy (w.setCell p v) k e:=by
 obtain⟨c,z,h⟩:=h;by_cases b:p.block=k;{subst b;have hlt:=(Array.getElem?_eq_some_iff.1 h).1;have he:=(Array.getElem?_eq_some_iff.1 h).2;exact⟨if p.spot.isSome=true then c else c.setIfInBounds p.off v,z,by simp[World.setCell,Array.getElem?_modify,h]⟩};{exact⟨c,z,(Below.heap_setCell _ _ _ _ (λe=>b e.symm)).trans h⟩}
theorem OfTy.new (w:M)(c:Array ZB)(e:ZH):OfTy (w.alloc (.cells c e)) (I (J w)) e:=⟨c,_,World.alloc_heap_new w _⟩
structure Upd2 (ZL:ZH)(base n₀:Nat)(w w':M):Prop where
 os:w'.os=w.os
 tape:w'.tape=w.tape
 output:w'.output=w.output
 size:I (J w)<=I (J w')
 block:∀k,k<I (J w)->(k<base∨(n₀<=k/\¬ OfTy w k ZL))->w'.heap[k]?=w.heap[k]?
theorem Upd.two{b:Nat}{g:M}(h:Upd (λk=>f<=k/\k<b) w g)(ZL:ZH):Upd2 ZL f b w g:=⟨h.os,h.tape,h.output,h.size,λk i hp=>h.block k i (by omega)⟩
theorem Upd2.aa (h:Upd2 ZL f g a b)(hb:f<=I (J a)):Below f a b:=⟨h.os,h.tape,h.output,h.size,λk i=>h.block k (by omega) (.inl i)⟩
structure Itr (B:ZH)(n:Nat)(w w':M):Prop where
 low:Below n w w'
 keep:∀(k:Nat) (c:Array ZB) (e:ZH) (z:Nat × Nat),w.heap[k]?=T (Obj.cells c e z)->e≠B->w'.heap[k]?=w.heap[k]?
theorem Itr.q{B:ZH}(h:Below m w b)(f:I (J w)<=m)(hn:n<=m):Itr B n w b :=
 ⟨h.mono hn,λk _ _ _ g _=>h.block k (Nat.lt_of_lt_of_le (Array.getElem?_eq_some_iff.1 g).1 f)⟩
theorem Itr.setCell{B:ZH}(w:M)(hn:n<=p.block)(i:OfTy w p.block B)(v:ZB):Itr B n w (w.setCell p v) :=
 ⟨(Below.refl n w).setCell hn v,λk c e z f g=>Below.heap_setCell _ _ _ _ (λh=>by
  obtain⟨c',z',b⟩:=i;rw[<-h,f] at b;cases b
  exact g rfl)⟩
def SeqT2 {f:Type}(ZL B:ZH)(F:Fence)(n:Nat)(P:Program)(g:Nat)(r:Array ZB)(j:f->Array ZB)(q:List f->f->Prop)(m:Nat)(S p:List f->Prop)(w:M):Prop :=
 ∀(l:Nat) (ZO i:List f->M->Prop) (W:M),Below (I (J w)) w W->(∀s A C,ZO s A->Itr B (I (J W)) A C->ZO s C)->(∀s A C,i s A->Itr B (I (J W)) A C->i s C) ->
  (∀pre x h,q pre x->ZO pre h->I (J W)<=I (J h)->YieldAt F (n - 1) P l (j x) h λe b =>
   (e=ZD (ZC true)/\ZO (pre++[x]) b/\Upd2 ZL m (I (J W)) h b)∨(e=ZD (ZC false)/\i (pre++[x]) b)) ->
  ZO [] W ->
  CallsIn F n P g (#[.func (.yield l) #[] #[]]++r) W λe b=>(∃v,e=ZD v)/\((∃o,S o/\ZO o b)∨(∃pre,p pre/\i pre b))
theorem YieldAt.mono2{F:Fence}{P:Program}{args:Array ZB}{W:M}{R b:Ending->M->Prop}(h:YieldAt F m P l args W R)(hR:∀e f,R e f->b e f):YieldAt F m P l args W b:=by obtain⟨fn,tmps,assign,body,i,g⟩:=h;exact⟨fn,tmps,assign,body,i,g.mono hR⟩
theorem SeqT2.plain{f:Type}{B:ZH}{F:Fence}{P:Program}{r:Array ZB}{i:f->Array ZB}{q:List f->f->Prop}{m:f->Prop}{j:Nat}{S t:List f->Prop}(h:SeqT2 ZL B F n P g r i q j S t w)(u:∀pre x,q pre x->m x/\pre.length<ZM):zq F n P g r i m j S t ZM w :=
 λl ZO D W G H p E z=>h l ZO D W G (λs A C o hi=>H s A C o hi.low) (λs A C o hi=>p s A C o hi.low) (λpre x ZP h1 h2 K=>YieldAt.mono2 (E pre x ZP (u pre x h1).1 h2 (u pre x h1).2 K) λ_ _ y=>y.imp (λ⟨a,b,c⟩=>⟨a,b,c.two ZL⟩) id) z
