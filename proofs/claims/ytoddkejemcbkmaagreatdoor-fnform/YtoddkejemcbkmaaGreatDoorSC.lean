import Derived.RangeFuncKeeps
import Derived.RangeFuncFrom
open Option renaming none->Y,some->T
open Go renaming World->M,Value->ZC,TypeId->ZH,Value.bool->ZD,Ending.returned->ZF,World.heap->J
open Bool renaming false->ZA,true->ZG
open Array renaming size->I
namespace Go.Proofs.YtoddkejemcbkmaaGreatDoor.Ca
open RowKit
variable {w b a w0:M}{n bx l m gf ZN c:Nat}{P:Nat->Prop}{F:Fence}{e B ZL:ZH}{p:Addr}{g:Operand}{ps:Array Tmp}{assign body:Code}{ZM:Exit->Act->M->Prop}{lb:Array ZC}
structure Upd (P:Nat->Prop)(w w':M):Prop where
 os:w'.os=w.os
 tape:w'.tape=w.tape
 output:w'.output=w.output
 size:I (J w)<=I (J w')
 block:∀k,k<I (J w)->¬ P k->w'.heap[k]?=w.heap[k]?
theorem Upd.refl (P:Nat->Prop)(w:M):Upd P w w:=⟨rfl,rfl,rfl,Nat.le_refl _,λ_ _ _=>rfl⟩
theorem Upd.trans{c:M}(h:Upd P a b)(k:Upd P b c):Upd P a c :=
 ⟨k.os.trans h.os,k.tape.trans h.tape,k.output.trans h.output,Nat.le_trans h.size k.size,λi hi f=>(k.block i (Nat.lt_of_lt_of_le hi h.size) f).trans (h.block i hi f)⟩
theorem Upd.mono{ZM:Nat->Prop}(h:Upd P a b)(c:∀k,P k->ZM k):Upd ZM a b :=
 ⟨h.os,h.tape,h.output,h.size,λi hi f=>h.block i hi (λg=>f (c i g))⟩
theorem Upd.setCell (w:M)(c:P p.block)(v:ZC):Upd P w (w.setCell p v) :=
 ⟨rfl,rfl,rfl,by simp[World.setCell],λk _ b=>Below.heap_setCell _ _ _ _ (λe=>b (e ▸ c))⟩
theorem Upd.putObj (w:M)(c:P l)(o:Obj):Upd P w (w.putObj l o) :=
 ⟨rfl,rfl,rfl,by simp,λk _ b=>World.putObj_heap_other (λe=>b (e ▸ c))⟩
theorem cY (w:M)(hn:n<=l)(hl:l<I (J w))(o:Obj):Below n w (w.putObj l o) :=
 (Below.refl n w).grown (grownBy_putObj' w l o) (by omega) (λk e=>by cases e;exact hn)
def Cq {f:Type}(F:Fence)(n:Nat)(P:Program)(g:Nat)(r:Array ZC)(j:f->Array ZC)(q:f->Prop)(m:Nat)(S p:List f->Prop)(ZN:Nat)(w:M):Prop :=
 ∀(l:Nat) (ZO i:List f->M->Prop) (W:M),Below (I (J w)) w W->(∀s A B,ZO s A->Below (I (J W)) A B->ZO s B)->(∀s A B,i s A->Below (I (J W)) A B->i s B) ->
  (∀b x h,q x->ZO b h->b.length<ZN->I (J W)<=I (J h)->YieldAt F (n - 1) P l (j x) h λe c =>
   (e=ZF (ZD ZG)/\ZO (b++[x]) c/\Upd (λk=>m<=k/\k<I (J W)) h c)∨(e=ZF (ZD ZA)/\i (b++[x]) c)) ->
  ZO [] W ->
  CallsIn F n P g (#[.func (.yield l) #[] #[]]++r) W λe c=>(∃v,e=ZF v)/\((∃o,S o/\ZO o c)∨(∃b,p b/\i b c))
def IK {g:Type}(c b:Nat)(ZP:List g->M->Prop)(h:Code->List g->M->Prop)(f:List g)(W:M):Exit->Act->M->Prop
 |.normal,_,W'=>Upd (λk=>c<=k/\k<b) W W'/\ZP f W'
 |.ret,_,W'=>Upd (λk=>c<=k/\k<b) W W'/\h .ret f W'
 |.exit id,_,W'=>Upd (λk=>c<=k/\k<b) W W'/\h (.exit id) f W'
 |.goto t,_,W'=>Upd (λk=>c<=k/\k<b) W W'/\h (.goto t) f W'
 |.panic _,_,_=>False
 |.outgrown,_,_=>False
theorem jA{P:Program}{z:Type}{a:Act}
  (qr:F.round=Y) (h1:1<=n)   (hg:a.eval g=.func (.func gf) #[] lb) (sm:F.fn gf) (eg:∀args w,(callFunc gf args).run P w=.ok (.enter gf args) w)
  {E:z->Array ZC} {Ox:z->Prop} {base:Nat} {S Sp:List z->Prop}   (hbase:base<=I (J w)) (n9:Cq F (n - 1) P gf lb E Ox base S Sp ZN w0) (mv:Below (I (J w0)) w0 w) (DE:∀x,(E x).size=ps.size)
  (ZP:List z->M->Prop) (ZK:Code->List z->M->Prop) (ZJ:∀s A B,ZP s A->Below (I (J w)) A B->ZP s B) (H:∀c s A B,ZK c s A->Below (I (J w)) A B->ZK c s B) (h0:ZP [] w) (ZL:z->Act)
  (R:∀(l:Nat) (x:z) (W:M) (K:Act->M->Prop),K (ZL x) W ->
   assign.wpIn (F.inRound l) (n - 1 - 1) P (Exit.then K (λ_ _ _=>False)) { tmps:=(ps.zip (E x)).foldl (λt (p,v)=>t.setIfInBounds p v) a.tmps,defers:=[] } W)
  (dg:∀(l:Nat) (h:List z) (x:z) (W:M),Ox x->ZP h W->h.length<ZN->I (J w)<=I (J W)->body.wpIn (F.inRound l) (n - 1 - 1) P (IK base (I (J w)) ZP ZK (h++[x]) W) (ZL x) W)
  (aq:∀(D:Nat) (xs:List z) (W:M),I (J w)<=D->S xs->ZP xs W->W.heap[D]?=T (.deferred (T []))->ZM .normal { a with defers:={ target:=.collected D,args:=#[] } :: a.defers } W)
  (bt:∀(D:Nat) (c:Code) (h:List z) (W:M),I (J w)<=D->Sp h->ZK c h W->W.heap[D]?=T (.deferred (T []))->c.wpIn F n P ZM { a with defers:={ target:=.collected D,args:=#[] } :: a.defers } W) :
  (Code.rangeFunc g ps assign body).wpIn F n P ZM a w:=by
 refine wpIn_rangeFunc ?_;intro fn DS;rw[qr];obtain⟨f,i⟩:∃f:LoopState->Option Code->Loop,f=λst pe=>{ state:=st,pending:=pe,fn,tmps:=a.tmps,params:=ps,assign,body,defers:=I (J w) }:=⟨_,rfl⟩
 obtain⟨o,ZO⟩:∃o,(w.alloc (.deferred (T []))).alloc (.loop (f .ready Y))=o:=⟨_,rfl⟩
 have hs1:I (J o)=I (J w)+2:=by rw[<-ZO];simp
 have th:o.heap[I (J w)+1]?=T (.loop (f .ready Y)):=by rw[<-ZO];have:=World.alloc_heap_new (w.alloc (.deferred (T []))) (.loop (f .ready Y));rwa[World.size_alloc] at this
 have ro:o.heap[I (J w)]?=T (.deferred (T [])):=by rw[<-ZO];exact(Below.heap_alloc _ _ _ (by simp)).trans (World.alloc_heap_new w _)
 have fd:Below (I (J w)) w o:=by rw[<-ZO];exact((Below.refl _ w).alloc (Nat.le_refl _) _).alloc (by simp) _
 have At:ZP [] o:=ZJ _ _ _ h0 fd;have Fd:Below (I (J w0)) w0 o:=mv.trans (fd.mono mv.size)
 refine⟨I (J w)+1,[{ target:=.collected (I (J w)),args:=#[] }],o,{ target:=.fn (.func gf) lb,args:=#[.func (.yield (I (J w)+1)) #[] #[]] },o,gf,
  #[.func (.yield (I (J w)+1)) #[] #[]]++lb,o,?_,?_,?_,?_,λ_=>h1,?_⟩
 {rw[<-ZO,i];exact run_enterLoop_outer _ _ _ _ _};{simp only[resolve,hg];simp[go_sem]};{intro f' la;simp[Target.leads] at la;subst la;exact sm};{simp[invoke,go_sem,eg]}
 ·refine(n9 (I (J w)+1)
   (λh W=>ZP h W/\W.heap[I (J w)+1]?=T (.loop (f .ready Y))/\W.heap[I (J w)]?=T (.deferred (T [])))
   (λh W=>∃c,ZK c h W/\W.heap[I (J w)+1]?=T (.loop (f .done (T c)))/\W.heap[I (J w)]?=T (.deferred (T [])))
   o Fd
   (λs A B ZI ZQ=>⟨ZJ s A B ZI.1 (ZQ.mono (by omega)),(ZQ.block _ (by omega)).trans ZI.2.1,(ZQ.block _ (by omega)).trans ZI.2.2⟩)
   (λs A B ZI ZQ=>by
    obtain⟨c,hc,r,G⟩:=ZI
    exact⟨c,H c s A B hc (ZQ.mono (by omega)),(ZQ.block _ (by omega)).trans r,(ZQ.block _ (by omega)).trans G⟩)
   ?_ ⟨At,th,ro⟩).mono ?_
  ·-- one round
   rintro h x W DH ⟨hi,r,G⟩ ph _;have V:I (J w)+1<I (J W):=(Array.getElem?_eq_some_iff.1 r).1;have hy:=run_yield (P:=P) (args:=E x) r (by rw[i];exact DE x);rw[i] at hy;refine⟨fn,_,assign,body,hy,roundIn_of_wpIn DS (R _ x W _ ⟨_,run_beginRound r (by rw[i]),?_⟩)⟩;have Bk:(W.putObj (I (J w)+1) (.loop { f .ready Y with state:=.busy })).heap[I (J w)+1]?=T (.loop { f .ready Y with state:=.busy }):=World.putObj_heap_same V;have Fk:(W.putObj (I (J w)+1) (.loop { f .ready Y with state:=.busy })).heap[I (J w)]?=T (.deferred (T [])):=(World.putObj_heap_other (by omega)).trans G;have ur:Upd (λk=>base<=k/\k<I (J o)) W (W.putObj (I (J w)+1) (.loop { f .ready Y with state:=.busy })):=Upd.putObj _ ⟨by omega,by omega⟩ _;refine wpIn_mono (dg _ h x _ DH (ZJ _ _ _ hi (cY _ (by omega) V _)) ph (by simp;omega)) ?_;have fin:∀(b:Option Code) (q:M),Upd (λk=>base<=k/\k<I (J w)) (W.putObj (I (J w)+1) (.loop { f .ready Y with state:=.busy })) q ->
     (Instr.endRound (I (J w)+1) b).run P q=.ok (ZD b.isNone) (q.putObj (I (J w)+1) (.loop (f (if b.isNone then .ready else .done) b))) /\
     Below (I (J w)) q (q.putObj (I (J w)+1) (.loop (f (if b.isNone then .ready else .done) b))) /\
     (q.putObj (I (J w)+1) (.loop (f (if b.isNone then .ready else .done) b))).heap[I (J w)+1]?=T (.loop (f (if b.isNone then .ready else .done) b)) /\
     (q.putObj (I (J w)+1) (.loop (f (if b.isNone then .ready else .done) b))).heap[I (J w)]?=T (.deferred (T [])):=λb q j=>by
    have ld:=(j.block _ (by simpa using V) (by omega)).trans Bk;have m:=(j.block _ (by simp;omega) (by omega)).trans Fk;have X:=(Array.getElem?_eq_some_iff.1 ld).1;have:=run_endRound (P:=P) b ld;rw[i] at this ⊢;exact⟨this,cY _ (by omega) X _,World.putObj_heap_same X,(World.putObj_heap_other (by omega)).trans m⟩
   rintro e a3 q O;cases e with
   |normal =>obtain⟨j,C⟩:=O;obtain⟨L,u,y,m⟩:=fin Y q j;exact⟨_,_,L,.inl ⟨rfl,⟨ZJ _ _ _ C u,y,m⟩,(ur.trans (j.mono (λk G=>⟨G.1,by omega⟩))).trans (Upd.putObj _ ⟨by omega,by omega⟩ _)⟩⟩
   |ret =>obtain⟨j,C⟩:=O;obtain⟨L,u,y,m⟩:=fin (T .ret) q j;exact⟨_,_,L,.inr ⟨rfl,.ret,H _ _ _ _ C u,y,m⟩⟩
   |exit id =>obtain⟨j,C⟩:=O;obtain⟨L,u,y,m⟩:=fin (T (.exit id)) q j;exact⟨_,_,L,.inr ⟨rfl,.exit id,H _ _ _ _ C u,y,m⟩⟩
   |goto t =>obtain⟨j,C⟩:=O;obtain⟨L,u,y,m⟩:=fin (T (.goto t)) q j;exact⟨_,_,L,.inr ⟨rfl,.goto t,H _ _ _ _ C u,y,m⟩⟩
   |panic ch=>exact O.elim
   |outgrown=>exact O.elim
  {rintro e W2 ⟨⟨v,rfl⟩,(⟨xs,hS,hi,r,G⟩|⟨h,DQ,c,hi,r,G⟩)⟩;{exact⟨Y,_,by have:=run_endLoop (P:=P) r (by rw[i];simp);rw[i] at this;exact this,aq _ xs _ (Nat.le_refl _) hS (ZJ _ _ _ hi (cY _ (by omega) (Array.getElem?_eq_some_iff.1 r).1 _)) ((World.putObj_heap_other (by omega)).trans G)⟩};{exact⟨T c,_,by have:=run_endLoop (P:=P) r (by rw[i];simp);rw[i] at this;exact this,bt _ c h _ (Nat.le_refl _) DQ (H _ _ _ _ hi (cY _ (by omega) (Array.getElem?_eq_some_iff.1 r).1 _)) ((World.putObj_heap_other (by omega)).trans G)⟩}}
def OfTy (w:M)(k:Nat)(e:ZH):Prop:=∃c z,w.heap[k]?=T (.cells c e z)
theorem OfTy.eq{k:Nat}(h:OfTy w k e)(hb:b.heap[k]?=w.heap[k]?):OfTy b k e:=by obtain⟨c,z,h⟩:=h;exact⟨c,z,hb.trans h⟩
theorem OfTy.ne{k:Nat}{b:ZH}(h:OfTy w k e)(hn:b≠e):¬ OfTy w k b:=by
 obtain⟨c,z,h⟩:=h;rintro⟨c',z',f⟩;rw[h] at f;cases f
 exact hn rfl
theorem OfTy.set{k:Nat}(h:OfTy w k e)(p:Addr)(v:ZC):OfTy (w.setCell p v) k e:=by
 obtain⟨c,z,h⟩:=h;by_cases b:p.block=k;{subst b;have hlt:=(Array.getElem?_eq_some_iff.1 h).1;have he:=(Array.getElem?_eq_some_iff.1 h).2;exact⟨if p.spot.isSome=ZG then c else c.setIfInBounds p.off v,z,by simp[World.setCell,Array.getElem?_modify,h]⟩};{exact⟨c,z,(Below.heap_setCell _ _ _ _ (λe=>b e.symm)).trans h⟩}
theorem OfTy.new (w:M)(c:Array ZC)(e:ZH):OfTy (w.alloc (.cells c e)) (I (J w)) e:=⟨c,_,World.alloc_heap_new w _⟩
structure Upd2 (ZL:ZH)(base n₀:Nat)(w w':M):Prop where
 os:w'.os=w.os
 tape:w'.tape=w.tape
 output:w'.output=w.output
 size:I (J w)<=I (J w')
 block:∀k,k<I (J w)->(k<base∨(n₀<=k/\¬ OfTy w k ZL))->w'.heap[k]?=w.heap[k]?
theorem Upd.two{b:Nat}{f:M}(h:Upd (λk=>c<=k/\k<b) w f)(ZL:ZH):Upd2 ZL c b w f:=⟨h.os,h.tape,h.output,h.size,λk g hp=>h.block k g (by omega)⟩
theorem OfTy.of_eq{k:Nat}(h:OfTy b k e)(hb:b.heap[k]?=w.heap[k]?):OfTy w k e:=by obtain⟨c,z,h⟩:=h;exact⟨c,z,hb.symm.trans h⟩
theorem Upd2.aa{f:Nat}(h:Upd2 ZL c f a b)(hb:c<=I (J a)):Below c a b:=⟨h.os,h.tape,h.output,h.size,λk g=>h.block k (by omega) (.inl g)⟩
structure Itr (B:ZH)(n:Nat)(w w':M):Prop where
 low:Below n w w'
 keep:∀(k:Nat) (c:Array ZC) (e:ZH) (z:Nat × Nat),w.heap[k]?=T (Obj.cells c e z)->e≠B->w'.heap[k]?=w.heap[k]?
theorem Itr.u (h:Below m w b)(f:I (J w)<=m)(hn:n<=m):Itr B n w b :=
 ⟨h.mono hn,λk _ _ _ c _=>h.block k (Nat.lt_of_lt_of_le (Array.getElem?_eq_some_iff.1 c).1 f)⟩
theorem Itr.setCell (w:M)(hn:n<=p.block)(f:OfTy w p.block B)(v:ZC):Itr B n w (w.setCell p v) :=
 ⟨(Below.refl n w).setCell hn v,λk c e z g i=>Below.heap_setCell _ _ _ _ (λh=>by
  obtain⟨c',z',b⟩:=f;rw[<-h,g] at b;cases b
  exact i rfl)⟩
def SeqT2 {f:Type}(ZL B:ZH)(F:Fence)(n:Nat)(P:Program)(g:Nat)(r:Array ZC)(j:f->Array ZC)(q:List f->f->Prop)(m:Nat)(S p:List f->Prop)(w:M):Prop :=
 ∀(l:Nat) (ZO i:List f->M->Prop) (W:M),Below (I (J w)) w W->(∀s A C,ZO s A->Itr B (I (J W)) A C->ZO s C)->(∀s A C,i s A->Itr B (I (J W)) A C->i s C) ->
  (∀b x h,q b x->ZO b h->I (J W)<=I (J h)->YieldAt F (n - 1) P l (j x) h λe c =>
   (e=ZF (ZD ZG)/\ZO (b++[x]) c/\Upd2 ZL m (I (J W)) h c)∨(e=ZF (ZD ZA)/\i (b++[x]) c)) ->
  ZO [] W ->
  CallsIn F n P g (#[.func (.yield l) #[] #[]]++r) W λe c=>(∃v,e=ZF v)/\((∃o,S o/\ZO o c)∨(∃b,p b/\i b c))
theorem YieldAt.mono2{P:Program}{args:Array ZC}{W:M}{R b:Ending->M->Prop}(h:YieldAt F m P l args W R)(hR:∀e c,R e c->b e c):YieldAt F m P l args W b:=by obtain⟨fn,tmps,assign,body,g,f⟩:=h;exact⟨fn,tmps,assign,body,g,f.mono hR⟩
theorem SeqT2.plain{j:Type}{P:Program}{g:Nat}{r:Array ZC}{i:j->Array ZC}{y:List j->j->Prop}{o:j->Prop}{S t:List j->Prop}(h:SeqT2 ZL B F n P g r i y m S t w)(u:∀f x,y f x->o x/\f.length<ZN):Cq F n P g r i o m S t ZN w :=
 λl ZO G W z D q K ZP=>h l ZO G W z (λs A C p hi=>D s A C p hi.low) (λs A C p hi=>q s A C p hi.low) (λf x E h1 h2 h4=>YieldAt.mono2 (K f x E (u f x h1).1 h2 (u f x h1).2 h4) λ_ _ H=>H.imp (λ⟨a,b,c⟩=>⟨a,b,c.two ZL⟩) id) ZP
def ik (w:M)(k:Nat):Prop:=∃(c:Array ZC) (e:ZH) (z:Nat × Nat),w.heap[k]?=T (Obj.cells c e z)
structure Itx (bx n:Nat)(w w':M):Prop where
 os:w'.os=w.os
 tape:w'.tape=w.tape
 output:w'.output=w.output
 size:I (J w)<=I (J w')
 keep:∀k,k<I (J w)->k≠bx->(k<n∨ik w k)->w'.heap[k]?=w.heap[k]?
theorem Itx.mono (h:Itx bx n w b)(hm:m<=n):Itx bx m w b:=⟨h.os,h.tape,h.output,h.size,λk c hb f=>h.keep k c hb (f.imp (λh=>by omega) id)⟩
theorem Itx.u{B:Nat}(h:Below B w b)(hB:I (J w)<=B):Itx bx n w b:=⟨h.os,h.tape,h.output,h.size,λk hk _ _=>h.block k (by omega)⟩
theorem Itx.putObj (w:M)(hn:n<=l)(c:¬ ik w l)(o:Obj):Itx bx n w (w.putObj l o) :=
 ⟨rfl,rfl,rfl,by simp,λk _ _ b=>World.putObj_heap_other (λe=>by
  subst e;rcases b with h|h
  ·omega
  ·exact c h)⟩
theorem Itx.setCell (w:M)(j:Nat)(v:ZC):Itx bx n w (w.setCell ⟨bx,j,Y⟩ v) :=
 ⟨rfl,rfl,rfl,by simp[World.setCell],λk _ hb _=>Below.heap_setCell _ _ _ _ hb⟩
structure Bdx (bx:Nat)(w w':M):Prop where
 size:I (J w)<=I (J w')
 H:w'.heap[bx]?=w.heap[bx]?
 keep:∀k,k<I (J w)->¬ ik w k->w'.heap[k]?=w.heap[k]?
def Hl {f:Type}(bx:Nat)(F:Fence)(n:Nat)(P:Program)(g:Nat)(q:Array ZC)(j:f->Array ZC)(p:List f->f->Prop)(S o:List f->Prop)(w:M):Prop :=
 ∀(l:Nat) (ZO i:List f->M->Prop) (W:M),Below (I (J w)) w W->(∀s A C,ZO s A->Itx bx (I (J W)) A C->ZO s C)->(∀s A C,i s A->Itx bx (I (J W)) A C->i s C) ->
  (∀b x h,p b x->ZO b h->I (J W)<=I (J h)->YieldAt F (n - 1) P l (j x) h λe c =>
   (e=ZF (ZD ZG)/\ZO (b++[x]) c/\c.heap[bx]?=h.heap[bx]?/\(I (J h))<=I (J c))∨(e=ZF (ZD ZA)/\i (b++[x]) c)) ->
  ZO [] W ->
  CallsIn F n P g (#[.func (.yield l) #[] #[]]++q) W λe c=>(∃v,e=ZF v)/\((∃m,S m/\ZO m c)∨(∃b,o b/\i b c))
def IL {c:Type}(bx:Nat)(ZP:List c->M->Prop)(f:Code->List c->M->Prop)(b:List c)(W:M):Exit->Act->M->Prop
 |.normal,_,W'=>Bdx bx W W'/\ZP b W'
 |.ret,_,W'=>Bdx bx W W'/\f .ret b W'
 |.exit id,_,W'=>Bdx bx W W'/\f (.exit id) b W'
 |.goto t,_,W'=>Bdx bx W W'/\f (.goto t) b W'
 |.panic _,_,_=>False
 |.outgrown,_,_=>False
theorem oy{P:Program}{u:Type}{a:Act}
  (ur:F.round=Y) (h1:1<=n)   (hg:a.eval g=.func (.func gf) #[] lb) (Bk:F.fn gf) (eg:∀args w,(callFunc gf args).run P w=.ok (.enter gf args) w)
  {H:u->Array ZC} {Ox:List u->u->Prop} {S Sp:List u->Prop}  (hbx:bx<I (J w)) (ro:Hl bx F (n - 1) P gf lb H Ox S Sp w0) (ph:Below (I (J w0)) w0 w) (DQ:∀x,(H x).size=ps.size)
  (ZP:List u->M->Prop) (ZI:Code->List u->M->Prop) (hI:∀s A C,ZP s A->Itx bx (I (J w)) A C->ZP s C) (ZO:∀c s A C,ZI c s A->Itx bx (I (J w)) A C->ZI c s C) (h0:ZP [] w) (V:u->Act)
  (ZK:∀(l:Nat) (x:u) (W:M) (K:Act->M->Prop),K (V x) W ->
   assign.wpIn (F.inRound l) (n - 1 - 1) P (Exit.then K (λ_ _ _=>False)) { tmps:=(ps.zip (H x)).foldl (λt (p,v)=>t.setIfInBounds p v) a.tmps,defers:=[] } W)
  (dg:∀(l:Nat) (i:List u) (x:u) (W:M),Ox i x->ZP i W->I (J w)<=I (J W)->body.wpIn (F.inRound l) (n - 1 - 1) P (IL bx ZP ZI (i++[x]) W) (V x) W)
  (aq:∀(D:Nat) (xs:List u) (W:M),I (J w)<=D->S xs->ZP xs W->W.heap[D]?=T (.deferred (T []))->ZM .normal { a with defers:={ target:=.collected D,args:=#[] } :: a.defers } W)
  (bt:∀(D:Nat) (c:Code) (i:List u) (W:M),I (J w)<=D->Sp i->ZI c i W->W.heap[D]?=T (.deferred (T []))->c.wpIn F n P ZM { a with defers:={ target:=.collected D,args:=#[] } :: a.defers } W) :
  (Code.rangeFunc g ps assign body).wpIn F n P ZM a w:=by
 refine wpIn_rangeFunc ?_;intro fn Fk;rw[ur];obtain⟨f,m⟩:∃f:LoopState->Option Code->Loop,f=λst pe=>{ state:=st,pending:=pe,fn,tmps:=a.tmps,params:=ps,assign,body,defers:=I (J w) }:=⟨_,rfl⟩
 obtain⟨y,L⟩:∃y,(w.alloc (.deferred (T []))).alloc (.loop (f .ready Y))=y:=⟨_,rfl⟩
 have hs1:I (J y)=I (J w)+2:=by rw[<-L];simp
 have DE:y.heap[I (J w)+1]?=T (.loop (f .ready Y)):=by rw[<-L];have:=World.alloc_heap_new (w.alloc (.deferred (T []))) (.loop (f .ready Y));rwa[World.size_alloc] at this
 have At:y.heap[I (J w)]?=T (.deferred (T [])):=by rw[<-L];exact(Below.heap_alloc _ _ _ (by simp)).trans (World.alloc_heap_new w _)
 have fd:Below (I (J w)) w y:=by rw[<-L];exact((Below.refl _ w).alloc (Nat.le_refl _) _).alloc (by simp) _
 have DH:ZP [] y:=hI _ _ _ h0 (Itx.u fd (Nat.le_refl _));have Fm:Below (I (J w0)) w0 y:=ph.trans (fd.mono ph.size);have X:∀(W:M) (st:LoopState) (pe:Option Code),W.heap[I (J w)+1]?=T (.loop (f st pe))->¬ ik W (I (J w)+1):=λW st pe h ⟨c,e,z,h2⟩=>by rw[h] at h2;cases h2
 refine⟨I (J w)+1,[{ target:=.collected (I (J w)),args:=#[] }],y,{ target:=.fn (.func gf) lb,args:=#[.func (.yield (I (J w)+1)) #[] #[]] },y,gf,
  #[.func (.yield (I (J w)+1)) #[] #[]]++lb,y,?_,?_,?_,?_,λ_=>h1,?_⟩
 {rw[<-L,m];exact run_enterLoop_outer _ _ _ _ _};{simp only[resolve,hg];simp[go_sem]};{intro f' la;simp[Target.leads] at la;subst la;exact Bk};{simp[invoke,go_sem,eg]}
 ·refine(ro (I (J w)+1)
   (λi W=>ZP i W/\W.heap[I (J w)+1]?=T (.loop (f .ready Y))/\W.heap[I (J w)]?=T (.deferred (T [])))
   (λi W=>∃c,ZI c i W/\W.heap[I (J w)+1]?=T (.loop (f .done (T c)))/\W.heap[I (J w)]?=T (.deferred (T [])))
   y Fm
   (λs A C O R=>⟨hI s A C O.1 (R.mono (by omega)),(R.keep _ (Array.getElem?_eq_some_iff.1 O.2.1).1 (by omega) (.inl (by omega))).trans O.2.1,(R.keep _ (Array.getElem?_eq_some_iff.1 O.2.2).1 (by omega) (.inl (by omega))).trans O.2.2⟩)
   (λs A C O R=>by
    obtain⟨c,hc,r,ZQ⟩:=O
    exact⟨c,ZO c s A C hc (R.mono (by omega)),(R.keep _ (Array.getElem?_eq_some_iff.1 r).1 (by omega) (.inl (by omega))).trans r,(R.keep _ (Array.getElem?_eq_some_iff.1 ZQ).1 (by omega) (.inl (by omega))).trans ZQ⟩)
   ?_ ⟨DH,DE,At⟩).mono ?_
  ·-- one round
   rintro i x W DS ⟨hi,r,ZQ⟩ _;have n9:I (J w)+1<I (J W):=(Array.getElem?_eq_some_iff.1 r).1;have hy:=run_yield (P:=P) (args:=H x) r (by rw[m];exact DQ x);rw[m] at hy;refine⟨fn,_,assign,body,hy,roundIn_of_wpIn Fk (ZK _ x W _ ⟨_,run_beginRound r (by rw[m]),?_⟩)⟩;have ld:(W.putObj (I (J w)+1) (.loop { f .ready Y with state:=.busy })).heap[I (J w)+1]?=T (.loop { f .ready Y with state:=.busy }):=World.putObj_heap_same n9;have qr:(W.putObj (I (J w)+1) (.loop { f .ready Y with state:=.busy })).heap[I (J w)]?=T (.deferred (T [])):=(World.putObj_heap_other (by omega)).trans ZQ;have sm:(W.putObj (I (J w)+1) (.loop { f .ready Y with state:=.busy })).heap[bx]?=W.heap[bx]?:=World.putObj_heap_other (by omega);refine wpIn_mono (dg _ i x _ DS (hI _ _ _ hi (Itx.putObj _ (by omega) (X W _ _ r) _)) (by simp;omega)) ?_;have fin:∀(b:Option Code) (j:M),Bdx bx (W.putObj (I (J w)+1) (.loop { f .ready Y with state:=.busy })) j ->
     (Instr.endRound (I (J w)+1) b).run P j=.ok (ZD b.isNone) (j.putObj (I (J w)+1) (.loop (f (if b.isNone then .ready else .done) b))) /\
     Itx bx (I (J w)) j (j.putObj (I (J w)+1) (.loop (f (if b.isNone then .ready else .done) b))) /\
     (j.putObj (I (J w)+1) (.loop (f (if b.isNone then .ready else .done) b))).heap[I (J w)+1]?=T (.loop (f (if b.isNone then .ready else .done) b)) /\
     (j.putObj (I (J w)+1) (.loop (f (if b.isNone then .ready else .done) b))).heap[I (J w)]?=T (.deferred (T [])) /\
     (j.putObj (I (J w)+1) (.loop (f (if b.isNone then .ready else .done) b))).heap[bx]?=W.heap[bx]?/\(I (J W))<=(j.putObj (I (J w)+1) (.loop (f (if b.isNone then .ready else .done) b))).heap.size:=λb j o=>by
    have GS:I (J W)<=I (J j):=by have:=o.size;simpa using this
    have ZJ:=(o.keep (I (J w)+1) (by simpa using n9) (λ⟨c,e,z,h⟩=>by rw[ld] at h;cases h)).trans ld;have q:=(o.keep (I (J w)) (by simp;omega) (λ⟨c,e,z,h⟩=>by rw[qr] at h;cases h)).trans qr;have th:=(Array.getElem?_eq_some_iff.1 ZJ).1;have:=run_endRound (P:=P) b ZJ;have mv:Itx bx (I (J w)) j (j.putObj (I (J w)+1) (.loop (f (if b.isNone then .ready else .done) b))):=Itx.putObj _ (by omega) (λ⟨c,e,z,h⟩=>by rw[ZJ] at h;cases h) _;have e4:(j.putObj (I (J w)+1) (.loop (f (if b.isNone then .ready else .done) b))).heap[bx]?=W.heap[bx]?:=(World.putObj_heap_other (by omega)).trans (o.H.trans sm);have e5:I (J W)<=(j.putObj (I (J w)+1) (.loop (f (if b.isNone then .ready else .done) b))).heap.size:=by simpa using GS
    rw[m] at this mv e4 e5 ⊢;exact⟨this,mv,World.putObj_heap_same th,(World.putObj_heap_other (by omega)).trans q,e4,e5⟩
   rintro e a3 j ZL;cases e with
   |normal =>obtain⟨o,G⟩:=ZL;obtain⟨ZN,B,E,q,Hx,Fn⟩:=fin Y j o;exact⟨_,_,ZN,.inl ⟨rfl,⟨hI _ _ _ G B,E,q⟩,Hx,Fn⟩⟩
   |ret =>obtain⟨o,G⟩:=ZL;obtain⟨ZN,B,E,q,_⟩:=fin (T .ret) j o;exact⟨_,_,ZN,.inr ⟨rfl,.ret,ZO _ _ _ _ G B,E,q⟩⟩
   |exit id =>obtain⟨o,G⟩:=ZL;obtain⟨ZN,B,E,q,_⟩:=fin (T (.exit id)) j o;exact⟨_,_,ZN,.inr ⟨rfl,.exit id,ZO _ _ _ _ G B,E,q⟩⟩
   |goto t =>obtain⟨o,G⟩:=ZL;obtain⟨ZN,B,E,q,_⟩:=fin (T (.goto t)) j o;exact⟨_,_,ZN,.inr ⟨rfl,.goto t,ZO _ _ _ _ G B,E,q⟩⟩
   |panic ch=>exact ZL.elim
   |outgrown=>exact ZL.elim
  {rintro e W2 ⟨⟨v,rfl⟩,(⟨xs,hS,hi,r,ZQ⟩|⟨i,Fd,c,hi,r,ZQ⟩)⟩;{exact⟨Y,_,by have:=run_endLoop (P:=P) r (by rw[m];simp);rw[m] at this;exact this,aq _ xs _ (Nat.le_refl _) hS (hI _ _ _ hi (Itx.putObj _ (by omega) (X _ _ _ r) _)) ((World.putObj_heap_other (by omega)).trans ZQ)⟩};{exact⟨T c,_,by have:=run_endLoop (P:=P) r (by rw[m];simp);rw[m] at this;exact this,bt _ c i _ (Nat.le_refl _) Fd (ZO _ _ _ _ hi (Itx.putObj _ (by omega) (X _ _ _ r) _)) ((World.putObj_heap_other (by omega)).trans ZQ)⟩}}
