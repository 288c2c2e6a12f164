import Derived.RangeFuncKeeps
import Derived.RangeFuncFrom
open Option renaming none->Y,some->T
open Go renaming World->M,Value->ZC,TypeId->ZI,Value.bool->ZD,Ending.returned->ZF,World.heap->J
open Bool renaming false->ZA,true->ZG
open Array renaming size->I
namespace Go.Proofs.YtpmnbjkjpnclaaaGreatDoor.Ca
open RowKit
variable {w b a:M}{n bx l m gf ZO c:Nat}{P:Nat->Prop}{F:Fence}{e B ZM:ZI}{p:Addr}{g:Operand}{ps:Array Tmp}{assign body:Code}{ZN:Exit->Act->M->Prop}{lb:Array ZC}
structure Upd (P:Nat->Prop)(w w':M):Prop where
 os:w'.os=w.os
 tape:w'.tape=w.tape
 output:w'.output=w.output
 size:I (J w)<=I (J w')
 block:∀k,k<I (J w)->¬ P k->w'.heap[k]?=w.heap[k]?
theorem Upd.refl (P:Nat->Prop)(w:M):Upd P w w:=⟨rfl,rfl,rfl,Nat.le_refl _,λ_ _ _=>rfl⟩
theorem Upd.trans{c:M}(h:Upd P a b)(k:Upd P b c):Upd P a c :=
 ⟨k.os.trans h.os,k.tape.trans h.tape,k.output.trans h.output,Nat.le_trans h.size k.size,λi hi f=>(k.block i (Nat.lt_of_lt_of_le hi h.size) f).trans (h.block i hi f)⟩
theorem Upd.mono{ZN:Nat->Prop}(h:Upd P a b)(c:∀k,P k->ZN k):Upd ZN a b :=
 ⟨h.os,h.tape,h.output,h.size,λi hi f=>h.block i hi (λg=>f (c i g))⟩
theorem Upd.setCell (w:M)(b:P p.block)(v:ZC):Upd P w (w.setCell p v) :=
 ⟨rfl,rfl,rfl,by simp[World.setCell],λk _ c=>Below.heap_setCell _ _ _ _ (λe=>c (e ▸ b))⟩
theorem Upd.putObj (w:M)(b:P l)(o:Obj):Upd P w (w.putObj l o) :=
 ⟨rfl,rfl,rfl,by simp,λk _ c=>World.putObj_heap_other (λe=>c (e ▸ b))⟩
theorem da (w:M)(hn:n<=l)(hl:l<I (J w))(o:Obj):Below n w (w.putObj l o) :=
 (Below.refl n w).grown (grownBy_putObj' w l o) (by omega) (λk e=>by cases e;exact hn)
def DV {h:Type}(F:Fence)(n:Nat)(P:Program)(g:Nat)(q:Array ZC)(i:h->Array ZC)(p:h->Prop)(j:Nat)(S o:List h->Prop)(ZO:Nat)(w:M):Prop :=
 ∀(l:Nat) (ZP c:List h->M->Prop) (W:M),Below (I (J w)) w W->(∀s A B,ZP s A->Below (I (J W)) A B->ZP s B)->(∀s A B,c s A->Below (I (J W)) A B->c s B) ->
  (∀pre x f,p x->ZP pre f->pre.length<ZO->I (J W)<=I (J f)->YieldAt F (n - 1) P l (i x) f λe b =>
   (e=ZF (ZD ZG)/\ZP (pre++[x]) b/\Upd (λk=>j<=k/\k<I (J W)) f b)∨(e=ZF (ZD ZA)/\c (pre++[x]) b)) ->
  ZP [] W ->
  CallsIn F n P g (#[.func (.yield l) #[] #[]]++q) W λe b=>(∃v,e=ZF v)/\((∃m,S m/\ZP m b)∨(∃pre,o pre/\c pre b))
def J8 {h:Type}(b c:Nat)(ZQ:List h->M->Prop)(g:Code->List h->M->Prop)(f:List h)(W:M):Exit->Act->M->Prop
 |.normal,_,W'=>Upd (λk=>b<=k/\k<c) W W'/\ZQ f W'
 |.ret,_,W'=>Upd (λk=>b<=k/\k<c) W W'/\g .ret f W'
 |.exit id,_,W'=>Upd (λk=>b<=k/\k<c) W W'/\g (.exit id) f W'
 |.goto t,_,W'=>Upd (λk=>b<=k/\k<c) W W'/\g (.goto t) f W'
 |.panic _,_,_=>False
 |.outgrown,_,_=>False
theorem jL{P:Program}{q:Type}{a:Act}
  (DQ:F.round=Y) (h1:1<=n)   (hg:a.eval g=.func (.func gf) #[] lb) (Bk:F.fn gf) (eg:∀args w,(callFunc gf args).run P w=.ok (.enter gf args) w)
  {C:q->Array ZC} {Ox:q->Prop} {base:Nat} {S Sp:List q->Prop}  {ZL:M} (hbase:base<=I (J w)) (n9:DV F (n - 1) P gf lb C Ox base S Sp ZO ZL) (fd:Below (I (J ZL)) ZL w) (DH:∀x,(C x).size=ps.size)
  (ZQ:List q->M->Prop) (R:Code->List q->M->Prop) (ZJ:∀s A B,ZQ s A->Below (I (J w)) A B->ZQ s B) (G:∀c s A B,R c s A->Below (I (J w)) A B->R c s B) (h0:ZQ [] w) (X:q->Act)
  (O:∀(l:Nat) (x:q) (W:M) (K:Act->M->Prop),K (X x) W ->
   assign.wpIn (F.inRound l) (n - 1 - 1) P (Exit.then K (λ_ _ _=>False)) { tmps:=(ps.zip (C x)).foldl (λt (p,v)=>t.setIfInBounds p v) a.tmps,defers:=[] } W)
  (aq:∀(l:Nat) (pre:List q) (x:q) (W:M),Ox x->ZQ pre W->pre.length<ZO->I (J w)<=I (J W)->body.wpIn (F.inRound l) (n - 1 - 1) P (J8 base (I (J w)) ZQ R (pre++[x]) W) (X x) W)
  (dg:∀(D:Nat) (xs:List q) (W:M),I (J w)<=D->S xs->ZQ xs W->W.heap[D]?=T (.deferred (T []))->ZN .normal { a with defers:={ target:=.collected D,args:=#[] } :: a.defers } W)
  (bt:∀(D:Nat) (c:Code) (pre:List q) (W:M),I (J w)<=D->Sp pre->R c pre W->W.heap[D]?=T (.deferred (T []))->c.wpIn F n P ZN { a with defers:={ target:=.collected D,args:=#[] } :: a.defers } W) :
  (Code.rangeFunc g ps assign body).wpIn F n P ZN a w:=by
 refine wpIn_rangeFunc ?_;intro fn At;rw[DQ];obtain⟨f,h⟩:∃f:LoopState->Option Code->Loop,f=λst pe=>{ state:=st,pending:=pe,fn,tmps:=a.tmps,params:=ps,assign,body,defers:=I (J w) }:=⟨_,rfl⟩
 obtain⟨o,H⟩:∃o,(w.alloc (.deferred (T []))).alloc (.loop (f .ready Y))=o:=⟨_,rfl⟩
 have hs1:I (J o)=I (J w)+2:=by rw[<-H];simp
 have DS:o.heap[I (J w)+1]?=T (.loop (f .ready Y)):=by rw[<-H];have:=World.alloc_heap_new (w.alloc (.deferred (T []))) (.loop (f .ready Y));rwa[World.size_alloc] at this
 have Fd:o.heap[I (J w)]?=T (.deferred (T [])):=by rw[<-H];exact(Below.heap_alloc _ _ _ (by simp)).trans (World.alloc_heap_new w _)
 have la:Below (I (J w)) w o:=by rw[<-H];exact((Below.refl _ w).alloc (Nat.le_refl _) _).alloc (by simp) _
 have DE:ZQ [] o:=ZJ _ _ _ h0 la;have ro:Below (I (J ZL)) ZL o:=fd.trans (la.mono fd.size)
 refine⟨I (J w)+1,[{ target:=.collected (I (J w)),args:=#[] }],o,{ target:=.fn (.func gf) lb,args:=#[.func (.yield (I (J w)+1)) #[] #[]] },o,gf,
  #[.func (.yield (I (J w)+1)) #[] #[]]++lb,o,?_,?_,?_,?_,λ_=>h1,?_⟩
 {rw[<-H,h];exact run_enterLoop_outer _ _ _ _ _};{simp only[resolve,hg];simp[go_sem]};{intro f' ld;simp[Target.leads] at ld;subst ld;exact Bk};{simp[invoke,go_sem,eg]}
 ·refine(n9 (I (J w)+1)
   (λpre W=>ZQ pre W/\W.heap[I (J w)+1]?=T (.loop (f .ready Y))/\W.heap[I (J w)]?=T (.deferred (T [])))
   (λpre W=>∃c,R c pre W/\W.heap[I (J w)+1]?=T (.loop (f .done (T c)))/\W.heap[I (J w)]?=T (.deferred (T [])))
   o ro
   (λs A B ZM L=>⟨ZJ s A B ZM.1 (L.mono (by omega)),(L.block _ (by omega)).trans ZM.2.1,(L.block _ (by omega)).trans ZM.2.2⟩)
   (λs A B ZM L=>by
    obtain⟨c,hc,r,E⟩:=ZM
    exact⟨c,G c s A B hc (L.mono (by omega)),(L.block _ (by omega)).trans r,(L.block _ (by omega)).trans E⟩)
   ?_ ⟨DE,DS,Fd⟩).mono ?_
  ·-- one round
   rintro pre x W qr ⟨hi,r,E⟩ ph _;have V:I (J w)+1<I (J W):=(Array.getElem?_eq_some_iff.1 r).1;have hy:=run_yield (P:=P) (args:=C x) r (by rw[h];exact DH x);rw[h] at hy;refine⟨fn,_,assign,body,hy,roundIn_of_wpIn At (O _ x W _ ⟨_,run_beginRound r (by rw[h]),?_⟩)⟩;have th:(W.putObj (I (J w)+1) (.loop { f .ready Y with state:=.busy })).heap[I (J w)+1]?=T (.loop { f .ready Y with state:=.busy }):=World.putObj_heap_same V;have sm:(W.putObj (I (J w)+1) (.loop { f .ready Y with state:=.busy })).heap[I (J w)]?=T (.deferred (T [])):=(World.putObj_heap_other (by omega)).trans E;have Fk:Upd (λk=>base<=k/\k<I (J o)) W (W.putObj (I (J w)+1) (.loop { f .ready Y with state:=.busy })):=Upd.putObj _ ⟨by omega,by omega⟩ _;refine wpIn_mono (aq _ pre x _ qr (ZJ _ _ _ hi (da _ (by omega) V _)) ph (by simp;omega)) ?_;have fin:∀(b:Option Code) (m:M),Upd (λk=>base<=k/\k<I (J w)) (W.putObj (I (J w)+1) (.loop { f .ready Y with state:=.busy })) m ->
     (Instr.endRound (I (J w)+1) b).run P m=.ok (ZD b.isNone) (m.putObj (I (J w)+1) (.loop (f (if b.isNone then .ready else .done) b))) /\
     Below (I (J w)) m (m.putObj (I (J w)+1) (.loop (f (if b.isNone then .ready else .done) b))) /\
     (m.putObj (I (J w)+1) (.loop (f (if b.isNone then .ready else .done) b))).heap[I (J w)+1]?=T (.loop (f (if b.isNone then .ready else .done) b)) /\
     (m.putObj (I (J w)+1) (.loop (f (if b.isNone then .ready else .done) b))).heap[I (J w)]?=T (.deferred (T [])):=λb m i=>by
    have mv:=(i.block _ (by simpa using V) (by omega)).trans th;have j:=(i.block _ (by simp;omega) (by omega)).trans sm;have ZK:=(Array.getElem?_eq_some_iff.1 mv).1;have:=run_endRound (P:=P) b mv;rw[h] at this ⊢;exact⟨this,da _ (by omega) ZK _,World.putObj_heap_same ZK,(World.putObj_heap_other (by omega)).trans j⟩
   rintro e a3 m ZR;cases e with
   |normal =>obtain⟨i,y⟩:=ZR;obtain⟨ZP,u,z,j⟩:=fin Y m i;exact⟨_,_,ZP,.inl ⟨rfl,⟨ZJ _ _ _ y u,z,j⟩,(Fk.trans (i.mono (λk E=>⟨E.1,by omega⟩))).trans (Upd.putObj _ ⟨by omega,by omega⟩ _)⟩⟩
   |ret =>obtain⟨i,y⟩:=ZR;obtain⟨ZP,u,z,j⟩:=fin (T .ret) m i;exact⟨_,_,ZP,.inr ⟨rfl,.ret,G _ _ _ _ y u,z,j⟩⟩
   |exit id =>obtain⟨i,y⟩:=ZR;obtain⟨ZP,u,z,j⟩:=fin (T (.exit id)) m i;exact⟨_,_,ZP,.inr ⟨rfl,.exit id,G _ _ _ _ y u,z,j⟩⟩
   |goto t =>obtain⟨i,y⟩:=ZR;obtain⟨ZP,u,z,j⟩:=fin (T (.goto t)) m i;exact⟨_,_,ZP,.inr ⟨rfl,.goto t,G _ _ _ _ y u,z,j⟩⟩
   |panic ch=>exact ZR.elim
   |outgrown=>exact ZR.elim
  {rintro e W2 ⟨⟨v,rfl⟩,(⟨xs,hS,hi,r,E⟩|⟨pre,ur,c,hi,r,E⟩)⟩;{exact⟨Y,_,by have:=run_endLoop (P:=P) r (by rw[h];simp);rw[h] at this;exact this,dg _ xs _ (Nat.le_refl _) hS (ZJ _ _ _ hi (da _ (by omega) (Array.getElem?_eq_some_iff.1 r).1 _)) ((World.putObj_heap_other (by omega)).trans E)⟩};{exact⟨T c,_,by have:=run_endLoop (P:=P) r (by rw[h];simp);rw[h] at this;exact this,bt _ c pre _ (Nat.le_refl _) ur (G _ _ _ _ hi (da _ (by omega) (Array.getElem?_eq_some_iff.1 r).1 _)) ((World.putObj_heap_other (by omega)).trans E)⟩}}
def OfTy (w:M)(k:Nat)(e:ZI):Prop:=∃c z,w.heap[k]?=T (.cells c e z)
theorem OfTy.eq{k:Nat}(h:OfTy w k e)(hb:b.heap[k]?=w.heap[k]?):OfTy b k e:=by obtain⟨c,z,h⟩:=h;exact⟨c,z,hb.trans h⟩
theorem OfTy.ne{k:Nat}{f:ZI}(h:OfTy w k e)(hn:f≠e):¬ OfTy w k f:=by
 obtain⟨c,z,h⟩:=h;rintro⟨c',z',b⟩;rw[h] at b;cases b
 exact hn rfl
theorem OfTy.set{k:Nat}(h:OfTy w k e)(p:Addr)(v:ZC):OfTy (w.setCell p v) k e:=by
 obtain⟨c,z,h⟩:=h;by_cases b:p.block=k;{subst b;have hlt:=(Array.getElem?_eq_some_iff.1 h).1;have he:=(Array.getElem?_eq_some_iff.1 h).2;exact⟨if p.spot.isSome=ZG then c else c.setIfInBounds p.off v,z,by simp[World.setCell,Array.getElem?_modify,h]⟩};{exact⟨c,z,(Below.heap_setCell _ _ _ _ (λe=>b e.symm)).trans h⟩}
theorem OfTy.new (w:M)(c:Array ZC)(e:ZI):OfTy (w.alloc (.cells c e)) (I (J w)) e:=⟨c,_,World.alloc_heap_new w _⟩
structure Upd2 (ZM:ZI)(base n₀:Nat)(w w':M):Prop where
 os:w'.os=w.os
 tape:w'.tape=w.tape
 output:w'.output=w.output
 size:I (J w)<=I (J w')
 block:∀k,k<I (J w)->(k<base∨(n₀<=k/\¬ OfTy w k ZM))->w'.heap[k]?=w.heap[k]?
theorem Upd.two{b:Nat}{f:M}(h:Upd (λk=>b<=k/\k<c) w f)(ZM:ZI):Upd2 ZM b c w f:=⟨h.os,h.tape,h.output,h.size,λk g hp=>h.block k g (by omega)⟩
theorem OfTy.of_eq{k:Nat}(h:OfTy b k e)(hb:b.heap[k]?=w.heap[k]?):OfTy w k e:=by obtain⟨c,z,h⟩:=h;exact⟨c,z,hb.symm.trans h⟩
theorem Upd2.aa{f:Nat}(h:Upd2 ZM c f a b)(hb:c<=I (J a)):Below c a b:=⟨h.os,h.tape,h.output,h.size,λk g=>h.block k (by omega) (.inl g)⟩
structure Itr (B:ZI)(n:Nat)(w w':M):Prop where
 low:Below n w w'
 keep:∀(k:Nat) (c:Array ZC) (e:ZI) (z:Nat × Nat),w.heap[k]?=T (Obj.cells c e z)->e≠B->w'.heap[k]?=w.heap[k]?
theorem Itr.u (h:Below m w b)(f:I (J w)<=m)(hn:n<=m):Itr B n w b :=
 ⟨h.mono hn,λk _ _ _ c _=>h.block k (Nat.lt_of_lt_of_le (Array.getElem?_eq_some_iff.1 c).1 f)⟩
theorem Itr.setCell (w:M)(hn:n<=p.block)(i:OfTy w p.block B)(v:ZC):Itr B n w (w.setCell p v) :=
 ⟨(Below.refl n w).setCell hn v,λk c e z f g=>Below.heap_setCell _ _ _ _ (λh=>by
  obtain⟨c',z',b⟩:=i;rw[<-h,f] at b;cases b
  exact g rfl)⟩
def SeqT2 {c:Type}(ZM B:ZI)(F:Fence)(n:Nat)(P:Program)(g:Nat)(q:Array ZC)(i:c->Array ZC)(p:List c->c->Prop)(j:Nat)(S o:List c->Prop)(w:M):Prop :=
 ∀(l:Nat) (ZP f:List c->M->Prop) (W:M),Below (I (J w)) w W->(∀s A C,ZP s A->Itr B (I (J W)) A C->ZP s C)->(∀s A C,f s A->Itr B (I (J W)) A C->f s C) ->
  (∀pre x h,p pre x->ZP pre h->I (J W)<=I (J h)->YieldAt F (n - 1) P l (i x) h λe b =>
   (e=ZF (ZD ZG)/\ZP (pre++[x]) b/\Upd2 ZM j (I (J W)) h b)∨(e=ZF (ZD ZA)/\f (pre++[x]) b)) ->
  ZP [] W ->
  CallsIn F n P g (#[.func (.yield l) #[] #[]]++q) W λe b=>(∃v,e=ZF v)/\((∃m,S m/\ZP m b)∨(∃pre,o pre/\f pre b))
theorem YieldAt.mono2{P:Program}{args:Array ZC}{W:M}{R c:Ending->M->Prop}(h:YieldAt F m P l args W R)(hR:∀e b,R e b->c e b):YieldAt F m P l args W c:=by obtain⟨fn,tmps,assign,body,f,g⟩:=h;exact⟨fn,tmps,assign,body,f,g.mono hR⟩
theorem SeqT2.plain{f:Type}{P:Program}{g:Nat}{r:Array ZC}{j:f->Array ZC}{p:List f->f->Prop}{m:f->Prop}{i:Nat}{S t:List f->Prop}(h:SeqT2 ZM B F n P g r j p i S t w)(u:∀pre x,p pre x->m x/\pre.length<ZO):DV F n P g r j m i S t ZO w :=
 λl ZP D W ZQ G q H y=>h l ZP D W ZQ (λs A C o hi=>G s A C o hi.low) (λs A C o hi=>q s A C o hi.low) (λpre x E h1 h2 h4=>YieldAt.mono2 (H pre x E (u pre x h1).1 h2 (u pre x h1).2 h4) λ_ _ z=>z.imp (λ⟨a,b,c⟩=>⟨a,b,c.two ZM⟩) id) y
def iz (w:M)(k:Nat):Prop:=∃(c:Array ZC) (e:ZI) (z:Nat × Nat),w.heap[k]?=T (Obj.cells c e z)
structure Itx (bx n:Nat)(w w':M):Prop where
 os:w'.os=w.os
 tape:w'.tape=w.tape
 output:w'.output=w.output
 size:I (J w)<=I (J w')
 keep:∀k,k<I (J w)->k≠bx->(k<n∨iz w k)->w'.heap[k]?=w.heap[k]?
theorem Itx.mono (h:Itx bx n w b)(hm:m<=n):Itx bx m w b:=⟨h.os,h.tape,h.output,h.size,λk c hb f=>h.keep k c hb (f.imp (λh=>by omega) id)⟩
theorem Itx.u{B:Nat}(h:Below B w b)(hB:I (J w)<=B):Itx bx n w b:=⟨h.os,h.tape,h.output,h.size,λk hk _ _=>h.block k (by omega)⟩
theorem Itx.putObj (w:M)(hn:n<=l)(c:¬ iz w l)(o:Obj):Itx bx n w (w.putObj l o) :=
 ⟨rfl,rfl,rfl,by simp,λk _ _ b=>World.putObj_heap_other (λe=>by
  subst e;rcases b with h|h
  ·omega
  ·exact c h)⟩
theorem Itx.setCell (w:M)(j:Nat)(v:ZC):Itx bx n w (w.setCell ⟨bx,j,Y⟩ v) :=
 ⟨rfl,rfl,rfl,by simp[World.setCell],λk _ hb _=>Below.heap_setCell _ _ _ _ hb⟩
structure Bdx (bx:Nat)(w w':M):Prop where
 size:I (J w)<=I (J w')
 ab:w'.heap[bx]?=w.heap[bx]?
 keep:∀k,k<I (J w)->¬ iz w k->w'.heap[k]?=w.heap[k]?
def Ja {f:Type}(bx:Nat)(F:Fence)(n:Nat)(P:Program)(g:Nat)(p:Array ZC)(i:f->Array ZC)(o:List f->f->Prop)(S m:List f->Prop)(w:M):Prop :=
 ∀(l:Nat) (ZP h:List f->M->Prop) (W:M),Below (I (J w)) w W->(∀s A C,ZP s A->Itx bx (I (J W)) A C->ZP s C)->(∀s A C,h s A->Itx bx (I (J W)) A C->h s C) ->
  (∀pre x c,o pre x->ZP pre c->I (J W)<=I (J c)->YieldAt F (n - 1) P l (i x) c λe b =>
   (e=ZF (ZD ZG)/\ZP (pre++[x]) b/\b.heap[bx]?=c.heap[bx]?/\(I (J c))<=I (J b))∨(e=ZF (ZD ZA)/\h (pre++[x]) b)) ->
  ZP [] W ->
  CallsIn F n P g (#[.func (.yield l) #[] #[]]++p) W λe b=>(∃v,e=ZF v)/\((∃j,S j/\ZP j b)∨(∃pre,m pre/\h pre b))
def J9 {f:Type}(bx:Nat)(ZQ:List f->M->Prop)(c:Code->List f->M->Prop)(b:List f)(W:M):Exit->Act->M->Prop
 |.normal,_,W'=>Bdx bx W W'/\ZQ b W'
 |.ret,_,W'=>Bdx bx W W'/\c .ret b W'
 |.exit id,_,W'=>Bdx bx W W'/\c (.exit id) b W'
 |.goto t,_,W'=>Bdx bx W W'/\c (.goto t) b W'
 |.panic _,_,_=>False
 |.outgrown,_,_=>False
theorem oQ{P:Program}{r:Type}{a:Act}
  (GS:F.round=Y) (h1:1<=n)   (hg:a.eval g=.func (.func gf) #[] lb) (Fd:F.fn gf) (eg:∀args w,(callFunc gf args).run P w=.ok (.enter gf args) w)
  {G:r->Array ZC} {Ox:List r->r->Prop} {S Sp:List r->Prop} {V:M} (hbx:bx<I (J w)) (th:Ja bx F (n - 1) P gf lb G Ox S Sp V) (ld:Below (I (J V)) V w) (Fn:∀x,(G x).size=ps.size)
  (ZQ:List r->M->Prop) (ZL:Code->List r->M->Prop) (ZJ:∀s A C,ZQ s A->Itx bx (I (J w)) A C->ZQ s C) (H:∀c s A C,ZL c s A->Itx bx (I (J w)) A C->ZL c s C) (h0:ZQ [] w) (ZK:r->Act)
  (ZM:∀(l:Nat) (x:r) (W:M) (K:Act->M->Prop),K (ZK x) W ->
   assign.wpIn (F.inRound l) (n - 1 - 1) P (Exit.then K (λ_ _ _=>False)) { tmps:=(ps.zip (G x)).foldl (λt (p,v)=>t.setIfInBounds p v) a.tmps,defers:=[] } W)
  (bt:∀(l:Nat) (pre:List r) (x:r) (W:M),Ox pre x->ZQ pre W->I (J w)<=I (J W)->body.wpIn (F.inRound l) (n - 1 - 1) P (J9 bx ZQ ZL (pre++[x]) W) (ZK x) W)
  (fd:∀(D:Nat) (xs:List r) (W:M),I (J w)<=D->S xs->ZQ xs W->W.heap[D]?=T (.deferred (T []))->ZN .normal { a with defers:={ target:=.collected D,args:=#[] } :: a.defers } W)
  (dg:∀(D:Nat) (c:Code) (pre:List r) (W:M),I (J w)<=D->Sp pre->ZL c pre W->W.heap[D]?=T (.deferred (T []))->c.wpIn F n P ZN { a with defers:={ target:=.collected D,args:=#[] } :: a.defers } W) :
  (Code.rangeFunc g ps assign body).wpIn F n P ZN a w:=by
 refine wpIn_rangeFunc ?_;intro fn DS;rw[GS];obtain⟨f,j⟩:∃f:LoopState->Option Code->Loop,f=λst pe=>{ state:=st,pending:=pe,fn,tmps:=a.tmps,params:=ps,assign,body,defers:=I (J w) }:=⟨_,rfl⟩
 obtain⟨u,ZP⟩:∃u,(w.alloc (.deferred (T []))).alloc (.loop (f .ready Y))=u:=⟨_,rfl⟩
 have hs1:I (J u)=I (J w)+2:=by rw[<-ZP];simp
 have Hx:u.heap[I (J w)+1]?=T (.loop (f .ready Y)):=by rw[<-ZP];have:=World.alloc_heap_new (w.alloc (.deferred (T []))) (.loop (f .ready Y));rwa[World.size_alloc] at this
 have Id:u.heap[I (J w)]?=T (.deferred (T [])):=by rw[<-ZP];exact(Below.heap_alloc _ _ _ (by simp)).trans (World.alloc_heap_new w _)
 have qr:Below (I (J w)) w u:=by rw[<-ZP];exact((Below.refl _ w).alloc (Nat.le_refl _) _).alloc (by simp) _
 have Fm:ZQ [] u:=ZJ _ _ _ h0 (Itx.u qr (Nat.le_refl _));have DH:Below (I (J V)) V u:=ld.trans (qr.mono ld.size);have X:∀(W:M) (st:LoopState) (pe:Option Code),W.heap[I (J w)+1]?=T (.loop (f st pe))->¬ iz W (I (J w)+1):=λW st pe h ⟨c,e,z,h2⟩=>by rw[h] at h2;cases h2
 refine⟨I (J w)+1,[{ target:=.collected (I (J w)),args:=#[] }],u,{ target:=.fn (.func gf) lb,args:=#[.func (.yield (I (J w)+1)) #[] #[]] },u,gf,
  #[.func (.yield (I (J w)+1)) #[] #[]]++lb,u,?_,?_,?_,?_,λ_=>h1,?_⟩
 {rw[<-ZP,j];exact run_enterLoop_outer _ _ _ _ _};{simp only[resolve,hg];simp[go_sem]};{intro f' ro;simp[Target.leads] at ro;subst ro;exact Fd};{simp[invoke,go_sem,eg]}
 ·refine(th (I (J w)+1)
   (λpre W=>ZQ pre W/\W.heap[I (J w)+1]?=T (.loop (f .ready Y))/\W.heap[I (J w)]?=T (.deferred (T [])))
   (λpre W=>∃c,ZL c pre W/\W.heap[I (J w)+1]?=T (.loop (f .done (T c)))/\W.heap[I (J w)]?=T (.deferred (T [])))
   u DH
   (λs A C ZR O=>⟨ZJ s A C ZR.1 (O.mono (by omega)),(O.keep _ (Array.getElem?_eq_some_iff.1 ZR.2.1).1 (by omega) (.inl (by omega))).trans ZR.2.1,(O.keep _ (Array.getElem?_eq_some_iff.1 ZR.2.2).1 (by omega) (.inl (by omega))).trans ZR.2.2⟩)
   (λs A C ZR O=>by
    obtain⟨c,hc,q,L⟩:=ZR
    exact⟨c,H c s A C hc (O.mono (by omega)),(O.keep _ (Array.getElem?_eq_some_iff.1 q).1 (by omega) (.inl (by omega))).trans q,(O.keep _ (Array.getElem?_eq_some_iff.1 L).1 (by omega) (.inl (by omega))).trans L⟩)
   ?_ ⟨Fm,Hx,Id⟩).mono ?_
  ·-- one round
   rintro pre x W At ⟨hi,q,L⟩ _;have n9:I (J w)+1<I (J W):=(Array.getElem?_eq_some_iff.1 q).1;have hy:=run_yield (P:=P) (args:=G x) q (by rw[j];exact Fn x);rw[j] at hy;refine⟨fn,_,assign,body,hy,roundIn_of_wpIn DS (ZM _ x W _ ⟨_,run_beginRound q (by rw[j]),?_⟩)⟩;have ph:(W.putObj (I (J w)+1) (.loop { f .ready Y with state:=.busy })).heap[I (J w)+1]?=T (.loop { f .ready Y with state:=.busy }):=World.putObj_heap_same n9;have mv:(W.putObj (I (J w)+1) (.loop { f .ready Y with state:=.busy })).heap[I (J w)]?=T (.deferred (T [])):=(World.putObj_heap_other (by omega)).trans L;have sm:(W.putObj (I (J w)+1) (.loop { f .ready Y with state:=.busy })).heap[bx]?=W.heap[bx]?:=World.putObj_heap_other (by omega);refine wpIn_mono (bt _ pre x _ At (ZJ _ _ _ hi (Itx.putObj _ (by omega) (X W _ _ q) _)) (by simp;omega)) ?_;have fin:∀(b:Option Code) (i:M),Bdx bx (W.putObj (I (J w)+1) (.loop { f .ready Y with state:=.busy })) i ->
     (Instr.endRound (I (J w)+1) b).run P i=.ok (ZD b.isNone) (i.putObj (I (J w)+1) (.loop (f (if b.isNone then .ready else .done) b))) /\
     Itx bx (I (J w)) i (i.putObj (I (J w)+1) (.loop (f (if b.isNone then .ready else .done) b))) /\
     (i.putObj (I (J w)+1) (.loop (f (if b.isNone then .ready else .done) b))).heap[I (J w)+1]?=T (.loop (f (if b.isNone then .ready else .done) b)) /\
     (i.putObj (I (J w)+1) (.loop (f (if b.isNone then .ready else .done) b))).heap[I (J w)]?=T (.deferred (T [])) /\
     (i.putObj (I (J w)+1) (.loop (f (if b.isNone then .ready else .done) b))).heap[bx]?=W.heap[bx]?/\(I (J W))<=(i.putObj (I (J w)+1) (.loop (f (if b.isNone then .ready else .done) b))).heap.size:=λb i m=>by
    have Bk:I (J W)<=I (J i):=by have:=m.size;simpa using this
    have aq:=(m.keep (I (J w)+1) (by simpa using n9) (λ⟨c,e,z,h⟩=>by rw[ph] at h;cases h)).trans ph;have o:=(m.keep (I (J w)) (by simp;omega) (λ⟨c,e,z,h⟩=>by rw[mv] at h;cases h)).trans mv;have ur:=(Array.getElem?_eq_some_iff.1 aq).1;have:=run_endRound (P:=P) b aq;have la:Itx bx (I (J w)) i (i.putObj (I (J w)+1) (.loop (f (if b.isNone then .ready else .done) b))):=Itx.putObj _ (by omega) (λ⟨c,e,z,h⟩=>by rw[aq] at h;cases h) _;have e4:(i.putObj (I (J w)+1) (.loop (f (if b.isNone then .ready else .done) b))).heap[bx]?=W.heap[bx]?:=(World.putObj_heap_other (by omega)).trans (m.ab.trans sm);have e5:I (J W)<=(i.putObj (I (J w)+1) (.loop (f (if b.isNone then .ready else .done) b))).heap.size:=by simpa using Bk
    rw[j] at this la e4 e5 ⊢;exact⟨this,la,World.putObj_heap_same ur,(World.putObj_heap_other (by omega)).trans o,e4,e5⟩
   rintro e a3 i R;cases e with
   |normal =>obtain⟨m,B⟩:=R;obtain⟨ZO,y,E,o,DE,Fk⟩:=fin Y i m;exact⟨_,_,ZO,.inl ⟨rfl,⟨ZJ _ _ _ B y,E,o⟩,DE,Fk⟩⟩
   |ret =>obtain⟨m,B⟩:=R;obtain⟨ZO,y,E,o,_⟩:=fin (T .ret) i m;exact⟨_,_,ZO,.inr ⟨rfl,.ret,H _ _ _ _ B y,E,o⟩⟩
   |exit id =>obtain⟨m,B⟩:=R;obtain⟨ZO,y,E,o,_⟩:=fin (T (.exit id)) i m;exact⟨_,_,ZO,.inr ⟨rfl,.exit id,H _ _ _ _ B y,E,o⟩⟩
   |goto t =>obtain⟨m,B⟩:=R;obtain⟨ZO,y,E,o,_⟩:=fin (T (.goto t)) i m;exact⟨_,_,ZO,.inr ⟨rfl,.goto t,H _ _ _ _ B y,E,o⟩⟩
   |panic ch=>exact R.elim
   |outgrown=>exact R.elim
  {rintro e W2 ⟨⟨v,rfl⟩,(⟨xs,hS,hi,q,L⟩|⟨pre,DQ,c,hi,q,L⟩)⟩;{exact⟨Y,_,by have:=run_endLoop (P:=P) q (by rw[j];simp);rw[j] at this;exact this,fd _ xs _ (Nat.le_refl _) hS (ZJ _ _ _ hi (Itx.putObj _ (by omega) (X _ _ _ q) _)) ((World.putObj_heap_other (by omega)).trans L)⟩};{exact⟨T c,_,by have:=run_endLoop (P:=P) q (by rw[j];simp);rw[j] at this;exact this,dg _ c pre _ (Nat.le_refl _) DQ (H _ _ _ _ hi (Itx.putObj _ (by omega) (X _ _ _ q) _)) ((World.putObj_heap_other (by omega)).trans L)⟩}}
