import Derived.Test.YtcnilonhfpimnaaGreatDoorGW
import Derived.Deep.LoopGhost
import Derived.Test.YtcnilonhfpimnaaGreatDoorGF
import Derived.RangeFuncKeeps
import Derived.RangeFuncFrom
set_option linter.all false
set_option maxRecDepth 100000
set_option maxHeartbeats 8000000
open Go renaming Addr.mk->T,Value.slice->Z,Value.string->U,Value.int->J,Value.bool->ZF,Value.agg->ZJ,Obj.cells->N,IntKind.i64->I,World->E,Value->ZB,TypeId->ZK,Ending.returned->ZI,World.heap->A,World.ownsRow->ZY,World.alloc->ZV,World.cell?->ZW,World.frozen?->ZX
open Option renaming none->Y,some->Q
open Bool renaming false->ZA,true->ZH
open Array renaming size->z
open List renaming length->ZU
namespace Go.Proofs.YtcnilonhfpimnaaGreatDoor.Ca
open RowKit Vp
structure Upd (P:Nat->Prop)(w w':E):Prop where
 os:w'.os=w.os
 tape:w'.tape=w.tape
 output:w'.output=w.output
 size:z (A w)<=z (A w')
 p:∀k,k<z (A w)->¬ P k->w'.heap[k]?=w.heap[k]?
def Upd.refl (P:Nat->Prop)(w:E):Upd P w w:=⟨rfl,rfl,rfl,Nat.le_refl _,λ_ _ _=>rfl⟩
def Upd.k {P:Nat->Prop}{a b c:E}(h:Upd P a b)(k:Upd P b c):Upd P a c:=
 ⟨k.os.k h.os,k.tape.k h.tape,k.output.k h.output,Nat.le_trans h.size k.size,λi hi f=>(k.p i (Nat.lt_of_lt_of_le hi h.size) f).k (h.p i hi f)⟩
def Upd.P {P ZO:Nat->Prop}{a b:E}(h:Upd P a b)(f:∀k,P k->ZO k):Upd ZO a b:=
 ⟨h.os,h.tape,h.output,h.size,λi hi g=>h.p i hi (λj=>g (f i j))⟩
def Upd.setCell {P:Nat->Prop}(w:E){p:Addr}(f:P p.block)(v:ZB):Upd P w (w.setCell p v):=
 ⟨rfl,rfl,rfl,by simp[World.setCell],λk _ b=>Below.heap_setCell _ _ _ _ (λe=>b (e ▸ f))⟩
def Upd.putObj {P:Nat->Prop}(w:E){l:Nat}(f:P l)(o:Obj):Upd P w (w.putObj l o):=
 ⟨rfl,rfl,rfl,by simp,λk _ b=>World.putObj_heap_other (λe=>b (e ▸ f))⟩
def dO {n:Nat}(w:E){l:Nat}(hn:n<=l)(hl:l<z (A w))(o:Obj):Below n w (w.putObj l o):=
 (Below.refl n w).grown (grownBy_putObj' w l o) (by omega) (λk e=>by cases e;exact hn)
def DX {f:Type}(F:Fence)(n:Nat)(P:Program)(g:Nat)(p:Array ZB)(m:f->Array ZB)(q:f->Prop)(j:Nat)(S r:List f->Prop)(ZQ:Nat)(w:E):Prop:=
 ∀(l:Nat) (ZR i:List f->E->Prop) (W:E),Below (z (A w)) w W->(∀s Z8 B,ZR s Z8->Below (z (A W)) Z8 B->ZR s B)->(∀s Z8 B,i s Z8->Below (z (A W)) Z8 B->i s B) ->
  (∀pre x h,q x->ZR pre h->ZU pre<ZQ->z (A W)<=z (A h)->YieldAt F (n - 1) P l (m x) h λe b =>
   (e=ZI (ZF ZH)/\ZR (pre++[x]) b/\Upd (λk=>j<=k/\k<z (A W)) h b)\/(e=ZI (ZF ZA)/\i (pre++[x]) b)) ->
  ZR [] W ->
  CallsIn F n P g (#[.func (.yield l) #[] #[]]++p) W λe b=>(∃v,e=ZI v)/\((∃o,S o/\ZR o b)\/(∃pre,r pre/\i pre b))
def Jn {i:Type}(f b:Nat)(ZS:List i->E->Prop)(h:Code->List i->E->Prop)(g:List i)(W:E):Exit->Act->E->Prop
 |.normal,_,W'=>Upd (λk=>f<=k/\k<b) W W'/\ZS g W'
 |.ret,_,W'=>Upd (λk=>f<=k/\k<b) W W'/\h .ret g W'
 |.exit id,_,W'=>Upd (λk=>f<=k/\k<b) W W'/\h (.exit id) g W'
 |.goto t,_,W'=>Upd (λk=>f<=k/\k<b) W W'/\h (.goto t) g W'
 |.panic _,_,_=>False
 |.outgrown,_,_=>False
def jI {F:Fence}{n:Nat}{P:Program}{o:Type}{g:Operand}{ps:Array Tmp}{assign body:Code}{ZO:Exit->Act->E->Prop}{a:Act}{w:E}
  (th:F.round=Y) (h1:1<=n) {gf:Nat} {lb:Array ZB} (hg:a.eval g=.func (.func gf) #[] lb) (ro:F.fn gf) (eg:∀args w,(callFunc gf args).run P w=.ok (.enter gf args) w)
  {ZZ:o->Array ZB} {Ox:o->Prop} {base:Nat} {S Sp:List o->Prop} {ZQ:Nat} {ZP:E} (hbase:base<=z (A w)) (n9:DX F (n - 1) P gf lb ZZ Ox base S Sp ZQ ZP) (mv:Below (z (A ZP)) ZP w) (Fk:∀x,(ZZ x).size=ps.size)
  (ZS:List o->E->Prop) (O:Code->List o->E->Prop) (ZM:∀s Z8 B,ZS s Z8->Below (z (A w)) Z8 B->ZS s B) (G:∀c s Z8 B,O c s Z8->Below (z (A w)) Z8 B->O c s B) (h0:ZS [] w) (R:o->Act)
  (M:∀(l:Nat) (x:o) (W:E) (K:Act->E->Prop),K (R x) W ->
   assign.wpIn (F.inRound l) (n - 1 - 1) P (Exit.then K (λ_ _ _=>False)) { tmps:=(ps.zip (ZZ x)).foldl (λt (p,v)=>t.setIfInBounds p v) a.tmps,defers:=[] } W)
  (aq:∀(l:Nat) (pre:List o) (x:o) (W:E),Ox x->ZS pre W->ZU pre<ZQ->z (A w)<=z (A W)->body.wpIn (F.inRound l) (n - 1 - 1) P (Jn base (z (A w)) ZS O (pre++[x]) W) (R x) W)
  (ex:∀(D:Nat) (ZL:List o) (W:E),z (A w)<=D->S ZL->ZS ZL W->W.heap[D]?=Q (.deferred (Q []))->ZO .normal { a with defers:={ target:=.collected D,args:=#[] } :: a.defers } W)
  (bt:∀(D:Nat) (c:Code) (pre:List o) (W:E),z (A w)<=D->Sp pre->O c pre W->W.heap[D]?=Q (.deferred (Q []))->c.wpIn F n P ZO { a with defers:={ target:=.collected D,args:=#[] } :: a.defers } W) :
  (Code.rangeFunc g ps assign body).wpIn F n P ZO a w:=by
 refine wpIn_rangeFunc ?_;intro fn sm;rw[th];obtain⟨b,f⟩:∃b:LoopState->Option Code->Loop,b=λst pe=>{ state:=st,pending:=pe,fn,tmps:=a.tmps,params:=ps,assign,body,defers:=z (A w) }:=⟨_,rfl⟩
 obtain⟨m,ZT⟩:∃m,(w.alloc (.deferred (Q []))).alloc (.loop (b .ready Y))=m:=⟨_,rfl⟩
 have hs1:z (A m)=z (A w)+2:=by rw[<-ZT];simp
 have DQ:m.heap[z (A w)+1]?=Q (.loop (b .ready Y)):=by rw[<-ZT];have:=World.alloc_heap_new (w.alloc (.deferred (Q []))) (.loop (b .ready Y));rwa[World.size_alloc] at this
 have At:m.heap[z (A w)]?=Q (.deferred (Q [])):=by rw[<-ZT];exact(Below.heap_alloc _ _ _ (by simp)).k (World.alloc_heap_new w _)
 have la:Below (z (A w)) w m:=by rw[<-ZT];exact((Below.refl _ w).alloc ly _).alloc (by simp) _
 have Fm:ZS [] m:=ZM _ _ _ h0 la;have Bk:Below (z (A ZP)) ZP m:=mv.k (la.P mv.size)
 refine⟨z (A w)+1,[{ target:=.collected (z (A w)),args:=#[] }],m,{ target:=.fn (.func gf) lb,args:=#[.func (.yield (z (A w)+1)) #[] #[]] },m,gf,
  #[.func (.yield (z (A w)+1)) #[] #[]]++lb,m,?_,?_,?_,?_,λ_=>h1,?_⟩
 {rw[<-ZT,f];exact run_enterLoop_outer _ _ _ _ _};{simp only[resolve,hg];simp[go_sem]};{intro f' fd;simp[Target.leads] at fd;subst fd;exact ro};{simp[invoke,go_sem,eg]}
 ·refine(n9 (z (A w)+1)
   (λpre W=>ZS pre W/\W.heap[z (A w)+1]?=Q (.loop (b .ready Y))/\W.heap[z (A w)]?=Q (.deferred (Q [])))
   (λpre W=>∃c,O c pre W/\W.heap[z (A w)+1]?=Q (.loop (b .done (Q c)))/\W.heap[z (A w)]?=Q (.deferred (Q [])))
   m Bk
   (λs Z8 B ZN ZR=>⟨ZM s Z8 B ZN.1 (ZR.P (by omega)),(ZR.p _ (by omega)).k ZN.2.1,(ZR.p _ (by omega)).k ZN.2.2⟩)
   (λs Z8 B ZN ZR=>by
    obtain⟨c,hc,q,C⟩:=ZN
    exact⟨c,G c s Z8 B hc (ZR.P (by omega)),(ZR.p _ (by omega)).k q,(ZR.p _ (by omega)).k C⟩)
   ?_ ⟨Fm,DQ,At⟩).P ?_
  ·-- one round
   rintro pre x W Fd⟨hi,q,C⟩ n8 _;have V:z (A w)+1<z (A W):=(Array.getElem?_eq_some_iff.1 q).1;have hy:=run_yield (P:=P) (args:=ZZ x) q (by rw[f];exact Fk x);rw[f] at hy;refine⟨fn,_,assign,body,hy,roundIn_of_wpIn sm (M _ x W _ ⟨_,run_beginRound q (by rw[f]),?_⟩)⟩;have ur:(W.putObj (z (A w)+1) (.loop { b .ready Y with state:=.busy })).heap[z (A w)+1]?=Q (.loop { b .ready Y with state:=.busy }):=World.putObj_heap_same V;have ph:(W.putObj (z (A w)+1) (.loop { b .ready Y with state:=.busy })).heap[z (A w)]?=Q (.deferred (Q [])):=(World.putObj_heap_other (by omega)).k C;have DE:Upd (λk=>base<=k/\k<z (A m)) W (W.putObj (z (A w)+1) (.loop { b .ready Y with state:=.busy })):=Upd.putObj _ ⟨by omega,by omega⟩ _;refine wpIn_mono (aq _ pre x _ Fd (ZM _ _ _ hi (dO _ (by omega) V _)) n8 (by simp;omega)) ?_;have fin:∀(jump:Option Code) (j:E),Upd (λk=>base<=k/\k<z (A w)) (W.putObj (z (A w)+1) (.loop { b .ready Y with state:=.busy })) j ->
     (Instr.endRound (z (A w)+1) jump).run P j=.ok (ZF jump.isNone) (j.putObj (z (A w)+1) (.loop (b (if jump.isNone then .ready else .done) jump))) /\
     Below (z (A w)) j (j.putObj (z (A w)+1) (.loop (b (if jump.isNone then .ready else .done) jump))) /\
     (j.putObj (z (A w)+1) (.loop (b (if jump.isNone then .ready else .done) jump))).heap[z (A w)+1]?=Q (.loop (b (if jump.isNone then .ready else .done) jump)) /\
     (j.putObj (z (A w)+1) (.loop (b (if jump.isNone then .ready else .done) jump))).heap[z (A w)]?=Q (.deferred (Q [])):=λjump j h=>by
    have ld:=(h.p _ (by simpa using V) (by omega)).k ur;have i:=(h.p _ (by simp;omega) (by omega)).k ph;have X:=(Array.getElem?_eq_some_iff.1 ld).1;have:=run_endRound (P:=P) jump ld;rw[f] at this ⊢;exact⟨this,dO _ (by omega) X _,World.putObj_heap_same X,(World.putObj_heap_other (by omega)).k i⟩
   rintro e a3 j L;cases e with
   |normal =>obtain⟨h,y⟩:=L;obtain⟨H,u,r,i⟩:=fin Y j h;exact⟨_,_,H,.inl ⟨rfl,⟨ZM _ _ _ y u,r,i⟩,(DE.k (h.P (λk C=>⟨C.1,by omega⟩))).k (Upd.putObj _ ⟨by omega,by omega⟩ _)⟩⟩
   |ret =>obtain⟨h,y⟩:=L;obtain⟨H,u,r,i⟩:=fin (Q .ret) j h;exact⟨_,_,H,.inr ⟨rfl,.ret,G _ _ _ _ y u,r,i⟩⟩
   |exit id =>obtain⟨h,y⟩:=L;obtain⟨H,u,r,i⟩:=fin (Q (.exit id)) j h;exact⟨_,_,H,.inr ⟨rfl,.exit id,G _ _ _ _ y u,r,i⟩⟩
   |goto t =>obtain⟨h,y⟩:=L;obtain⟨H,u,r,i⟩:=fin (Q (.goto t)) j h;exact⟨_,_,H,.inr ⟨rfl,.goto t,G _ _ _ _ y u,r,i⟩⟩
   |panic ch=>exact L.elim
   |outgrown=>exact L.elim
  {rintro e W2⟨⟨v,rfl⟩,(⟨ZL,hS,hi,q,C⟩|⟨pre,qr,c,hi,q,C⟩)⟩;{exact⟨Y,_,by have:=run_endLoop (P:=P) q (by rw[f];simp);rw[f] at this;exact this,ex _ ZL _ ly hS (ZM _ _ _ hi (dO _ (by omega) (Array.getElem?_eq_some_iff.1 q).1 _)) ((World.putObj_heap_other (by omega)).k C)⟩};{exact⟨Q c,_,by have:=run_endLoop (P:=P) q (by rw[f];simp);rw[f] at this;exact this,bt _ c pre _ ly qr (G _ _ _ _ hi (dO _ (by omega) (Array.getElem?_eq_some_iff.1 q).1 _)) ((World.putObj_heap_other (by omega)).k C)⟩}}
def OfTy (w:E)(k:Nat)(e:ZK):Prop:=∃c ZZ,w.heap[k]?=Q (N c e ZZ)
def OfTy.eq {w b:E}{k:Nat}{e:ZK}(h:OfTy w k e)(hb:b.heap[k]?=w.heap[k]?):OfTy b k e:=by obtain⟨c,ZZ,h⟩:=h;exact⟨c,ZZ,hb.k h⟩
def OfTy.ne {w:E}{k:Nat}{e b:ZK}(h:OfTy w k e)(hn:b≠e):¬ OfTy w k b:=by
 obtain⟨c,ZZ,h⟩:=h;rintro⟨c',z',f⟩;rw[h] at f;cases f
 exact hn rfl
def OfTy.set {w:E}{k:Nat}{e:ZK}(h:OfTy w k e)(p:Addr)(v:ZB):OfTy (w.setCell p v) k e:=by
 obtain⟨c,ZZ,h⟩:=h;by_cases b:p.block=k;{subst b;have hlt:=(Array.getElem?_eq_some_iff.1 h).1;have he:=(Array.getElem?_eq_some_iff.1 h).2;exact⟨if p.spot.isSome=ZH then c else c.setIfInBounds p.off v,ZZ,by simp[World.setCell,Array.getElem?_modify,h]⟩};{exact⟨c,ZZ,(Below.heap_setCell _ _ _ _ (λe=>b e.c)).k h⟩}
def OfTy.new (w:E)(c:Array ZB)(e:ZK):OfTy (w.alloc (N c e)) (z (A w)) e:=⟨c,_,World.alloc_heap_new w _⟩
structure Upd2 (ZP:ZK)(base n₀:Nat)(w w':E):Prop where
 os:w'.os=w.os
 tape:w'.tape=w.tape
 output:w'.output=w.output
 size:z (A w)<=z (A w')
 p:∀k,k<z (A w)->(k<base\/(n₀<=k/\¬ OfTy w k ZP))->w'.heap[k]?=w.heap[k]?
def Upd.two {f b:Nat}{w g:E}(h:Upd (λk=>f<=k/\k<b) w g)(ZP:ZK):Upd2 ZP f b w g:=⟨h.os,h.tape,h.output,h.size,λk i hp=>h.p k i (by omega)⟩
def Upd2.aa {ZP:ZK}{f g:Nat}{a b:E}(h:Upd2 ZP f g a b)(hb:f<=z (A a)):Below f a b:=⟨h.os,h.tape,h.output,h.size,λk i=>h.p k (by omega) (.inl i)⟩
structure Itr (B:ZK)(n:Nat)(w w':E):Prop where
 low:Below n w w'
 keep:∀(k:Nat) (c:Array ZB) (e:ZK) (ZZ:Nat × Nat),w.heap[k]?=Q (Obj.cells c e ZZ)->e≠B->w'.heap[k]?=w.heap[k]?
def Itr.l {B:ZK}{n m:Nat}{w b:E}(h:Below m w b)(g:z (A w)<=m)(hn:n<=m):Itr B n w b:=
 ⟨h.P hn,λk _ _ _ f _=>h.p k (Nat.lt_of_lt_of_le (Array.getElem?_eq_some_iff.1 f).1 g)⟩
def Itr.setCell {B:ZK}{n:Nat}(w:E){p:Addr}(hn:n<=p.block)(i:OfTy w p.block B)(v:ZB):Itr B n w (w.setCell p v):=
 ⟨(Below.refl n w).setCell hn v,λk c e ZZ g f=>Below.heap_setCell _ _ _ _ (λh=>by
  obtain⟨c',z',b⟩:=i;rw[<-h,g] at b;cases b
  exact f rfl)⟩
def SeqT2 {f:Type}(ZP B:ZK)(F:Fence)(n:Nat)(P:Program)(g:Nat)(p:Array ZB)(m:f->Array ZB)(q:List f->f->Prop)(j:Nat)(S r:List f->Prop)(w:E):Prop:=
 ∀(l:Nat) (ZR i:List f->E->Prop) (W:E),Below (z (A w)) w W->(∀s Z8 C,ZR s Z8->Itr B (z (A W)) Z8 C->ZR s C)->(∀s Z8 C,i s Z8->Itr B (z (A W)) Z8 C->i s C) ->
  (∀pre x h,q pre x->ZR pre h->z (A W)<=z (A h)->YieldAt F (n - 1) P l (m x) h λe b =>
   (e=ZI (ZF ZH)/\ZR (pre++[x]) b/\Upd2 ZP j (z (A W)) h b)\/(e=ZI (ZF ZA)/\i (pre++[x]) b)) ->
  ZR [] W ->
  CallsIn F n P g (#[.func (.yield l) #[] #[]]++p) W λe b=>(∃v,e=ZI v)/\((∃o,S o/\ZR o b)\/(∃pre,r pre/\i pre b))
def YieldAt.mono2 {F:Fence}{m:Nat}{P:Program}{l:Nat}{args:Array ZB}{W:E}{R f:Ending->E->Prop}(h:YieldAt F m P l args W R)(hR:∀e b,R e b->f e b):YieldAt F m P l args W f:=by obtain⟨fn,tmps,assign,body,g,i⟩:=h;exact⟨fn,tmps,assign,body,g,i.P hR⟩
def SeqT2.plain {f:Type}{ZP B:ZK}{F:Fence}{n:Nat}{P:Program}{g:Nat}{p:Array ZB}{i:f->Array ZB}{t:List f->f->Prop}{m:f->Prop}{j:Nat}{S r:List f->Prop}{ZQ:Nat}{w:E}(h:SeqT2 ZP B F n P g p i t j S r w)(q:∀pre x,t pre x->m x/\(ZU pre)<ZQ):DX F n P g p i m j S r ZQ w:=
 λl ZR ZS W H K u ZT y=>h l ZR ZS W H (λs Z8 C o hi=>K s Z8 C o hi.low) (λs Z8 C o hi=>u s Z8 C o hi.low) (λpre x G h1 h2 ZZ=>YieldAt.mono2 (ZT pre x G (q pre x h1).1 h2 (q pre x h1).2 ZZ) λ_ _ D=>D.imp (λ⟨a,b,c⟩=>⟨a,b,c.two ZP⟩) id) y
end Go.Proofs.YtcnilonhfpimnaaGreatDoor.Ca
namespace Go.Proofs.YtcnilonhfpimnaaGreatDoor.Vp
open RowKit Ca
def du (x:Link):List ZB:=[U x.e,ZF x.ask,ZF x.has,J I x.G]
def cy (f:Nat->Link)(n:Nat):List ZB:=((List.range n).map f).flatMap du
def iT (f:Nat->Link)(n:Nat):(cy f n).length=n*4:=by rw[cy,fA du 4 (λ_=>rfl)];simp
def jJ (f:Nat->Link){n i:Nat}(hi:i<n)(j:Nat)(b:j<4):(cy f n)[i*4+j]?=(du (f i))[j]? :=
 cT du 4 (λ_=>rfl) _ i j b (f i) (by simp[hi])
def AU (f:Nat->Link)(n:Nat):∀u∈cy f n,u.oneCell'=ZH:=by intro u g;simp only[cy,QR,du] at g;obtain⟨x,_,b⟩:=g;simp at b;rcases b with rfl|rfl|rfl|rfl<;>simp[Value.oneCell']
def DY {w:E}{b off n:Nat}{f:Nat->Link}(h:RowLink w b off n f):∀j u,(cy f n)[j]?=Q u->w.cell? (((T b off Y):Addr).add j)=Q u:=by
 intro j u g;have hl:j<n*4:=by have:=(j5.1 g).1;rwa[iT] at this
 have e:j=j / 4*4+j % 4:=by omega
 have hi:j / 4<n:=by omega
 obtain⟨l,h1,h2,o⟩:=h.2 (j / 4) hi;have m:j % 4<4:=UJ _ (by omega);rw[e,jJ f hi (j % 4) m] at g;have i:((T b off Y):Addr).add j=(T b (off+j) Y):=addr_add _ _ _;rw[i];rcases(show j % 4=0\/j % 4=1\/j % 4=2\/j % 4=3 by omega) with q|q|q|q;all_goals rw[q] at g;simp[du] at g;subst g
 {rw[show off+j=off+j / 4*4 by omega];exact l};{rw[show off+j=off+j / 4*4+1 by omega];exact h1};{rw[show off+j=off+j / 4*4+2 by omega];exact h2};{rw[show off+j=off+j / 4*4+3 by omega];exact o}
def ew {w m:E}{b size n:Nat}{e:ZK}{v:ZB}{j:List ZB}(h:ZY w b e size v n j)(hb:∀k,v.ownBlock=Q k->OfTy w k e->m.heap[k]?=w.heap[k]?):ZY m b e size v n j:=by
 refine⟨h.1,?_⟩;rcases h.2 with hn|⟨g,j_,f,rfl,l,i,rest⟩
 {exact .inl hn};{exact .inr ⟨g,j_,f,rfl,l,(hb g rfl ⟨f,_,i⟩).k i,rest⟩}
def fS {w:E}{f size n:Nat}{e:ZK}{v:ZB}{l:List ZB}(h:ZY w f e size v n l):∀k,v.ownBlock=Q k->OfTy w k e:=by
 intro k b;rcases h.2 with⟨rfl,_⟩|⟨g,j_,i,rfl,_,j,_⟩
 {simp[Value.ownBlock] at b};{simp[Value.ownBlock] at b;subst b;exact⟨i,_,j⟩}
def dr {w:E}{b size n:Nat}{e:ZK}{v:ZB}{f:List ZB}(h:ZY w b e size v n f)(hn:0<n):∃g j_,v=Z (Q (T g 0 Y)) n j_:=by
 rcases h.2 with⟨_,h2⟩|⟨g,c,cur,h1,_⟩
 {omega};{exact⟨g,c,h1⟩}
def lQ {w:E}{b size n:Nat}{e:ZK}{v:ZB}{f:List ZB}(h:ZY w b e size v n f):∃a j_,v=Z a n j_:=by
 rcases h.2 with⟨h1,h2⟩|⟨g,c,cur,h1,_⟩
 {exact⟨Y,0,by rw[h1,h2]⟩};{exact⟨_,_,h1⟩}
abbrev DR:=au × ZB × ZB
def ddV (r:DR):List ZB:=[U r.1.e,J I r.1.L,J I r.1.M,U r.1.H,r.2.1,r.2.2]
structure DSub (w:E)(base:Nat)(r:DR):Prop where
 q:ZY w base 102 3 r.2.1 r.1.h (bZ r.1.q r.1.h)
 az:ZY w base 65 4 r.2.2 r.1.f (cy r.1.m r.1.f)
def Apt (a b:ZB):Prop:=a.ownBlock=Y\/a.ownBlock≠b.ownBlock
structure DRow (w:E)(base:Nat)(v:ZB)(R:List DR):Prop where
 u:ZY w base 62 6 v (ZU R) (R.flatMap ddV)
 sub:∀r∈R,DSub w base r
 up:R.Pairwise λa b=>Apt a.2.1 b.2.1/\Apt a.2.2 b.2.2
def DSub.ad {w w':E}{b:Nat}{r:DR}(h:DSub w b r)(hb:∀k,OfTy w k 102\/OfTy w k 65->b<=k->w'.heap[k]?=w.heap[k]?):DSub w' b r:=
 ⟨ew h.q λk f g=>hb k (.inl g) (h.q.lt k f).1,ew h.az λk f g=>hb k (.inr g) (h.az.lt k f).1⟩
def DSub.aa {w g:E}{b B:Nat}{r:DR}(h:DSub w b r)(hb:Below B w g)(f:z (A w)<=B):DSub g b r:=⟨K_ h.q hb f,K_ h.az hb f⟩
def DSub.P {w:E}{b base':Nat}{r:DR}(h:DSub w b r)(hb:base'<=b):DSub w base' r:=⟨aE h.q hb,aE h.az hb⟩
def DRow.ad {w w':E}{b:Nat}{v:ZB}{R:List DR}(h:DRow w b v R)(hb:∀k,OfTy w k 102\/OfTy w k 65\/OfTy w k 62->b<=k->w'.heap[k]?=w.heap[k]?):DRow w' b v R:=
 ⟨ew h.u λk f g=>hb k (.inr (.inr g)) (h.u.lt k f).1,λr i=>(h.sub r i).ad λk f=>hb k (f.imp id .inl),h.up⟩
def DRow.aa {w g:E}{b B:Nat}{v:ZB}{R:List DR}(h:DRow w b v R)(hb:Below B w g)(f:z (A w)<=B):DRow g b v R:=
 ⟨K_ h.u hb f,λr i=>(h.sub r i).aa hb f,h.up⟩
def DRow.P {w:E}{b base':Nat}{v:ZB}{R:List DR}(h:DRow w b v R)(hb:base'<=b):DRow w base' v R:=⟨aE h.u hb,λr f=>(h.sub r f).P hb,h.up⟩
def DRow.set {w:E}{f:Nat}{v:ZB}{R:List DR}(h:DRow w f v R){p:Addr}{e:ZK}(i:p.block<f\/(OfTy w p.block e/\e≠102/\e≠65/\e≠62))(u:ZB):DRow (w.setCell p u) f v R:=
 h.ad λk b hb=>qh _ _ _ _ (λx=>by
  subst x;rcases i with i|⟨g,h1,h2,j⟩
  ·omega
  ·rcases b with b|b|b
   ·exact g.ne (Ne.symm h1) b
   ·exact g.ne (Ne.symm h2) b
   ·exact g.ne (Ne.symm j) b)
def jK (w:E)(b:Nat):DRow w b (Z Y 0 0) []:=⟨CP _ _ _ _,λr f=>absurd f (by simp),List.Pairwise.nil⟩
def DRow.more {w i l:E}{g:Nat}{v u:ZB}{R:List DR}{r:DR}(h:DRow w g v R)(h1:DRow i g v R)(m:g<=z (A w))(o:DSub i (z (A w)) r)
  (p:ZY l g 62 6 u (ZU R+1) (R.flatMap ddV++ddV r)) (q:i.grownBy l v.ownBlock):DRow l g u (R++[r]):=by
 have s:∀k,OfTy i k 102\/OfTy i k 65->Q k≠v.ownBlock:=λk f e=>by
  have Z8:=fS h1.u k e.c;rcases f with f|f;{exact Z8.ne (by decide) f};{exact Z8.ne (by decide) f}
 have t:∀k,OfTy i k 102\/OfTy i k 65->k<z (A i):=λk f=>by rcases f with⟨c,ZZ,f⟩|⟨c,ZZ,f⟩<;>exact(CV.1 f).1
 have keep:∀k,OfTy i k 102\/OfTy i k 65->l.heap[k]?=i.heap[k]?:=λk f=>q.p k (t k f) (s k f);refine⟨by simpa using p,λx j=>?_,?_⟩;{rcases p8.1 j with j|j;{exact(h1.sub x j).ad λk f _=>keep k f};{simp at j;subst j;exact(o.ad λk f _=>keep k f).P m}}
 ·rw[PD];refine⟨h.up,by simp,λa B b n=>?_⟩;simp at n;subst n;have y:=h.sub a B;refine⟨?_,?_⟩
  ·cases f:a.2.1.ownBlock with
   |none=>exact .inl f
   |some k =>refine .inr λe=>?_;have h1:=(y.q.lt k f).2;have h2:=(o.q.lt k (e ▸ f)).1;omega
  ·cases f:a.2.2.ownBlock with
   |none=>exact .inl f
   |some k =>refine .inr λe=>?_;have h1:=(y.az.lt k f).2;have h2:=(o.az.lt k (e ▸ f)).1;omega
def Ea {w:E}{b n g j_:Nat}{f:Nat->Link}(h:ZY w b 65 4 (Z (Q (T g 0 Y)) n j_) n (cy f n)):RowLink w g 0 n f:=by
 refine⟨(cV h).2,λi hi=>?_⟩;have c:∀j,j<4->∀u,(du (f i))[j]?=Q u->ZW w (T g (0+i*4+j) Y)=Q u:=λj l u m=>by have:=(bA h (j:=i*4+j) (u:=u) (by rw[jJ f hi j l];exact m)).1;rwa[show 0+i*4+j=i*4+j by omega]
 exact⟨c 0 (by omega) _ rfl,c 1 (by omega) _ rfl,c 2 (by omega) _ rfl,c 3 (by omega) _ rfl⟩
def DSub.ins {w:E}{f:Nat}{r:DR}(h:DSub w f r):∃a j_,r.2.1=Z a r.1.h j_/\SlIns w a r.1.h r.1.q:=by
 obtain⟨a,j_,e⟩:=lQ h.q;refine⟨a,j_,e,?_⟩;by_cases hz:r.1.h=0;{exact .inl hz}
 ·obtain⟨g,c,b⟩:=dr h.q (by omega);have i:=h.q;rw[b] at i;rw[e] at b;cases b
  exact .inr ⟨g,0,rfl,(kY i).1⟩
def DSub.m {w:E}{f:Nat}{r:DR}(h:DSub w f r):∃a j_,r.2.2=Z a r.1.f j_/\SlLink w a r.1.f r.1.m:=by
 obtain⟨a,j_,e⟩:=lQ h.az;refine⟨a,j_,e,?_⟩;by_cases hz:r.1.f=0;{exact .inl hz}
 ·obtain⟨g,c,b⟩:=dr h.az (by omega);have i:=h.az;rw[b] at i;rw[e] at b;cases b
  exact .inr ⟨g,0,rfl,Ea i⟩
def dG {R:List DR}{i:Nat}(hi:i<ZU R):∃r,R[i]?=Q r/\r∈R:=⟨R[i],gq hi,gz hi⟩
def iM {R:List DR}{i:Nat}{r:DR}(h:R[i]?=Q r):dF (R.map (·.1)) i=r.1:=by unfold dF;rw[CL,L8,h];rfl
def iU {w:E}{b g j_:Nat}{R:List DR}(h:ZY w b 62 6 (Z (Q (T g 0 Y)) (ZU R) j_) (ZU R) (R.flatMap ddV)){i:Nat}{r:DR}(f:R[i]?=Q r)(j:Nat)(m:j<6){u:ZB}(l:(ddV r)[j]?=Q u):ZW w (T g (i*6+j) Y)=Q u/\ZX w (T g (i*6+j) Y)=ZA:=
 bA h (j:=i*6+j) (u:=u) (by rw[cT ddV 6 (λ_=>rfl) R i j m r f];exact l)
def DRow.bd {w:E}{b c:Nat}{a:O_}{R:List DR}(h:DRow w b (Z a (ZU R) c) R):SlDeed w a (ZU R) (dF (R.map (·.1))):=by
 by_cases hz:ZU R=0;{exact .inl hz}
 ·obtain⟨g,c',e⟩:=dr h.u (by omega);cases e
  refine .inr ⟨g,0,rfl,(cV h.u).2,λi hi=>?_⟩;obtain⟨r,l,f⟩:=dG hi;rw[iM l];have c:∀j,j<6->∀u,(ddV r)[j]?=Q u->ZW w (T g (0+i*6+j) Y)=Q u:=λj x u t=>by rw[show 0+i*6+j=i*6+j by omega];exact(iU h.u l j x t).1
  obtain⟨n,c4,p,s⟩:=(h.sub r f).ins;obtain⟨m,c5,o,q⟩:=(h.sub r f).m;exact⟨c 0 (by omega) _ rfl,c 1 (by omega) _ rfl,c 2 (by omega) _ rfl,c 3 (by omega) _ rfl,⟨n,c4,by rw[<-p];exact c 4 (by omega) _ rfl,s⟩,⟨m,c5,by rw[<-o];exact c 5 (by omega) _ rfl,q⟩⟩
def rAt (R:List DR)(i:Nat):DR:=R.getD i (fG,Z Y 0 0,Z Y 0 0)
def ra (R:List DR)(i:Nat):Nat:=(rAt R i).1.h
def rl (R:List DR)(i:Nat):Nat:=(rAt R i).1.f
structure CpB (W:E)(h:Nat)(v vo:ZB):Prop where
 size:h+3<=z (A W)
 a:ZW W (T h 0 Y)=Q v
 r:ZW W (T (h+1) 0 Y)=Q (Z Y 0 0)/\ZX W (T (h+1) 0 Y)=ZA
 o:ZW W (T (h+2) 0 Y)=Q vo/\ZX W (T (h+2) 0 Y)=ZA
def ut (W:E)(v:ZB)(t:ZK):ZW (ZV W (N #[v] t)) (T (z (A W)) 0 Y)=Q v/\ZX (ZV W (N #[v] t)) (T (z (A W)) 0 Y)=ZA:=by constructor<;>simp
def IC (w:E)(v:ZB)(b:ZK):CpB (ZV (ZV (ZV w (N #[v] b)) (N #[Z Y 0 0] b)) (N #[Z Y 0 0] b)) (z (A w)) v (Z Y 0 0):=by
 obtain⟨f,m⟩:∃f,ZV w (N #[v] b)=f:=⟨_,rfl⟩
 obtain⟨g,j⟩:∃g,ZV f (N #[Z Y 0 0] b)=g:=⟨_,rfl⟩
 obtain⟨h,l⟩:∃h,ZV g (N #[Z Y 0 0] b)=h:=⟨_,rfl⟩
 rw[m,j,l];have z1:z (A f)=z (A w)+1:=by rw[<-m];simp
 have z2:z (A g)=z (A w)+2:=by rw[<-j];simp;omega
 have z3:z (A h)=z (A w)+3:=by rw[<-l];simp;omega
 have i:Below (z (A g)) g h:=by rw[<-l];exact br.alloc ly _
 have o:Below (z (A f)) f h:=(by rw[<-j];exact br.alloc ly _:Below (z (A f)) f g).k (i.P (by omega));have n1:=ut w v b;have n:=ut f (Z Y 0 0) b;have q:=ut g (Z Y 0 0) b;rw[m] at n1;rw[j,z1] at n;rw[l,z2] at q;exact⟨by omega,(o.O (p:=(T (z (A w)) 0 Y)) (by show (z (A w))<_;omega)).k n1.1,⟨(i.O (p:=(T (z (A w)+1) 0 Y)) (by show (z (A w))+1<_;omega)).k n.1,(i.frozen (p:=(T (z (A w)+1) 0 Y)) (by show (z (A w))+1<_;omega)).k n.2⟩,q⟩
def CpB.aa {W g:E}{h B:Nat}{v j:ZB}(b:CpB W h v j)(hb:Below B W g)(hB:h+3<=B):CpB g h v j:=by have c:∀k o,k<B->ZW g (T k o Y)=ZW W (T k o Y):=λk o i=>hb.O (p:=(T k o Y)) i;have f:∀k o,k<B->ZX g (T k o Y)=ZX W (T k o Y):=λk o i=>hb.frozen (p:=(T k o Y)) i;exact⟨nX b.size hb.size,(c _ _ (by omega)).k b.a,⟨(c _ _ (by omega)).k b.r.1,(f _ _ (by omega)).k b.r.2⟩,⟨(c _ _ (by omega)).k b.o.1,(f _ _ (by omega)).k b.o.2⟩⟩
def CpB.i {W:E}{h:Nat}{v g:ZB}(b:CpB W h v g)(u:ZB):CpB (W.setCell (T (h+2) 0 Y) u) h v u:=by have c:∀k o,k≠h+2->(W.setCell (T (h+2) 0 Y) u).cell? (T k o Y)=ZW W (T k o Y):=λk o f=>Q_ _ _ _ _ (by simpa using λe=>f e.c);exact⟨by simpa using b.size,(c _ _ (by omega)).k b.a,⟨(c _ _ (by omega)).k b.r.1,by simpa using b.r.2⟩,⟨BO _ _ _ (by rw[b.o.1];rfl),by simpa using b.o.2⟩⟩
def ID (w:E)(g f b l m i:ZB)(t:ZK):∀j u,[g,f,b,l,m,i][j]?=Q u->(ZV w (N #[g,f,b,l,m,i] t)).cell? (((T (z (A w)) 0 Y):Addr).add j)=Q u:=by
 intro j u n;have hj:j<6:=by have:=(j5.1 n).1;simpa using this
 have h:=jG w g f b l m i t;rw[addr_add,I5];rcases(show j=0\/j=1\/j=2\/j=3\/j=4\/j=5 by omega) with rfl|rfl|rfl|rfl|rfl|rfl;all_goals simp only[List.getElem?_cons_zero,VH,ND] at n;subst n
 {exact h.c0.1};{exact h.c1.1};{exact h.c2.1};{exact h.c3.1};{exact h.c4.1};{exact h.c5.1}
def da (f:Nat->au)(d:Int)(x:Nat × Nat):Int:=if (f x.1).L=3/\60<=x.2/\(d<0\/(x.1:Int)<d) then (x.1:Int) else d
def cW (f:Nat->au)(d:Int):List (Nat × Nat)->Int
 |[]=>d
 |x::xs=>cW f (da f d x) xs
def mV (f:Nat->au)(d:Int)(b g:List (Nat × Nat)):cW f d (b++g)=cW f (cW f d b) g:=by
 induction b generalizing d with
 |nil=>rfl
 |cons x b h=>simp only[PC,cW];exact h _
def zc (f:Nat->au)(d:Int)(x y:Nat × Nat):da f (da f d x) y=da f (da f d y) x:=by
 unfold da;by_cases b:(f x.1).L=3/\60<=x.2;{by_cases g:(f y.1).L=3/\60<=y.2;{simp only[b.1,b.2,g.1,g.2,TX];(repeat' split)<;>omega};{have e:∀ZZ:Prop,¬ ((f y.1).L=3/\60<=y.2/\ZZ):=λZZ h=>g ⟨h.1,h.2.1⟩;rw[eI (e _),eI (e _)]}};{have e:∀ZZ:Prop,¬ ((f x.1).L=3/\60<=x.2/\ZZ):=λZZ h=>b ⟨h.1,h.2.1⟩;rw[eI (e _),eI (e _)]}
def wV (f:Nat->au)(d:Int)(x:Nat × Nat)(b:List (Nat × Nat)):cW f (da f d x) b=da f (cW f d b) x:=by
 induction b generalizing d with
 |nil=>rfl
 |cons y ys g =>simp only[cW];rw[zc,g]
def TyAt (w:E)(g:Nat)(e:ZK):Prop:=∃b,w.heap[g]?=Q (N b e (0,0))
structure Kpt (H M:Nat)(W W':E):Prop where
 size:z (A W)<=z (A W')
 keep:∀k e,TyAt W k e->e≠3->k≠H->k≠M->W'.heap[k]?=W.heap[k]?
def Kpt.k {H M:Nat}{Z8 B C:E}(h:Kpt H M Z8 B)(k:Kpt H M B C):Kpt H M Z8 C:=
 ⟨nX h.size k.size,λi e hi f h1 h2=>by
  have b:=h.keep i e hi f h1 h2;obtain⟨c,g⟩:=hi
  exact(k.keep i e ⟨c,b.k g⟩ f h1 h2).k b⟩
def Kpt.l {H M:Nat}{W b:E}(h:Below (z (A W)) W b):Kpt H M W b:=
 ⟨h.size,λk e f _ _ _=>by obtain⟨c,g⟩:=f;exact h.p k (CV.1 g).1⟩
def Kpt.setCell {H M j:Nat}(W:E)(g:Nat)(hg:g=H\/g=M)(v:ZB):Kpt H M W (W.setCell (T g j Y) v):=
 ⟨by simp,λk _ _ _ h1 h2=>qh _ _ _ _ (by show k≠g;omega)⟩
structure SLs (w0 W:E)(n1 b off n j_ H M:Nat)(s:Nat->Bool)(ov:ZB)(ord:List Nat)(dp:Int):Prop where
 c0:ZW W (T H 0 Y)=Q (Z (Q (T b off Y)) n j_)
 c1:ZW W (T H 1 Y)=Q (Z (Q (T M 0 Y)) n n)
 c2:ZW W (T H 2 Y)=Q ov/\ZX W (T H 2 Y)=ZA
 c3:ZW W (T H 3 Y)=Q (J I dp)/\ZX W (T H 3 Y)=ZA
 row:∀q,q<n->ZW W (T M q Y)=Q (ZF (s q))/\ZX W (T M q Y)=ZA
 ord:ZY W n1 3 1 ov (ZU ord) (ord.map λq:Nat=>Value.int I (q:Int))
 low:Below (z (A w0)) w0 W
 hH:z (A w0)<=H/\H<n1
 hM:z (A w0)<=M/\M<n1
 ne:H≠M
 hz:n1<=z (A W)
def SLs.blocks {i W f:E}{n1 b off n j_ H M:Nat}{s:Nat->Bool}{l j:ZB}{ord g:List Nat}{m:Int}(h:SLs i W n1 b off n j_ H M s l ord m)(hz:z (A W)<=z (A f))(t:f.heap[H]?=W.heap[H]?)(p:f.heap[M]?=W.heap[M]?)(y:Below (z (A i)) i f)(u:j=l)(x:ZY f n1 3 1 l (ZU g) (g.map λq:Nat=>Value.int I (q:Int))):SLs i f n1 b off n j_ H M s j g m:=by subst u;have c:∀o,ZW f (T H o Y)=ZW W (T H o Y):=λo=>cq (a:=(T H o Y)) t;have ZZ:∀o,ZX f (T H o Y)=ZX W (T H o Y):=λo=>NG (a:=(T H o Y)) t;exact⟨(c 0).k h.c0,(c 1).k h.c1,⟨(c 2).k h.c2.1,(ZZ 2).k h.c2.2⟩,⟨(c 3).k h.c3.1,(ZZ 3).k h.c3.2⟩,λq r=>⟨(cq (a:=(T M q Y)) p).k (h.row q r).1,(NG (a:=(T M q Y)) p).k (h.row q r).2⟩,x,y,h.hH,h.hM,h.ne,nX h.hz hz⟩
def SLs.aa {g W i:E}{n1 b off n j_ H M:Nat}{s:Nat->Bool}{j:ZB}{ord:List Nat}{f:Int}(h:SLs g W n1 b off n j_ H M s j ord f)(hb:Below (z (A W)) W i):SLs g i n1 b off n j_ H M s j ord f:=
 h.blocks hb.size (hb.p H (by have:=h.hH;have:=h.hz;omega)) (hb.p M (by have:=h.hM;have:=h.hz;omega)) (h.low.k (hb.P h.low.size)) rfl (K_ h.ord hb ly)
def pd {w:E}{b g n R j:Nat}{e:ZK}{v:ZB}{i:List ZB}(h:ZY w b e g v n i)(hR:R<b)(u:ZB):(w.setCell (T R j Y) u).ownsRow b e g v n i:=by
 refine h.kept (row:=Q R) ⟨rfl,rfl,rfl,by simp[World.setCell],λk _ f=>qh _ _ _ _ (by simpa using f)⟩ ?_;cases hv:v.ownBlock with
 |none=>exact .inl rfl
 |some k=>exact .inr λl=>by have:=(h.lt k hv).1;cases l;omega
def SLs.mark {i W:E}{n1 b off n j_ H M p:Nat}{s:Nat->Bool}{j:ZB}{ord:List Nat}{g:Int}(h:SLs i W n1 b off n j_ H M s j ord g)(hp:p<n):SLs i (W.setCell (T M p Y) (ZF ZH)) n1 b off n j_ H M (put s p) j ord g:=by
 have c:∀o,(W.setCell (T M p Y) (ZF ZH)).cell? (T H o Y)=ZW W (T H o Y):=λo=>sq _ _ _ _ (by first|(simp;done)|(simp;exact λe=>absurd e.c h.ne)|(simp;exact λe=>absurd e h.ne)|(simp;omega));refine⟨(c 0).k h.c0,(c 1).k h.c1,⟨(c 2).k h.c2.1,by simpa using h.c2.2⟩,⟨(c 3).k h.c3.1,by simpa using h.c3.2⟩,λq f=>⟨?_,by simpa using(h.row q f).2⟩,pd h.ord h.hM.2 _,h.low.setCell h.hM.1 _,h.hH,h.hM,h.ne,by simpa using h.hz⟩;by_cases e:q=p;{subst e;rw[BO _ _ _ (by rw[(h.row q f).1];rfl)];simp[put]};{rw[sq _ _ _ _ (by first|(simp;done)|(simp;exact λe=>absurd e.c h.ne)|(simp;exact λe=>absurd e h.ne)|(simp;omega)),(h.row q f).1];simp[put,e]}
def SLs.deep {f W:E}{n1 b off n j_ H M:Nat}{s:Nat->Bool}{g:ZB}{ord:List Nat}{j:Int}(h:SLs f W n1 b off n j_ H M s g ord j)(v:Int):SLs f (W.setCell (T H 3 Y) (J I v)) n1 b off n j_ H M s g ord v:=by have c:∀o,o≠3->(W.setCell (T H 3 Y) (J I v)).cell? (T H o Y)=ZW W (T H o Y):=λo ho=>sq _ _ _ _ (by first|(simp;done)|(simp;exact λe=>absurd e.c h.ne)|(simp;exact λe=>absurd e h.ne)|(simp;omega));refine⟨(c 0 (by omega)).k h.c0,(c 1 (by omega)).k h.c1,⟨(c 2 (by omega)).k h.c2.1,by simpa using h.c2.2⟩,⟨BO _ _ _ (by rw[h.c3.1];rfl),by simpa using h.c3.2⟩,λq i=>⟨(sq _ _ _ _ (by first|(simp;done)|(simp;exact λe=>absurd e.c h.ne)|(simp;exact λe=>absurd e h.ne)|(simp;omega))).k (h.row q i).1,by simpa using(h.row q i).2⟩,pd h.ord h.hH.2 _,h.low.setCell h.hH.1 _,h.hH,h.hM,h.ne,by simpa using h.hz⟩
def Som (r:DR):Prop:=(∃g c,r.2.1=Z (Q (T g 0 Y)) r.1.h c)/\∃g c,r.2.2=Z (Q (T g 0 Y)) r.1.f c
def AV (a:O_)(n j_:Nat)(f:Nat->au)(w:E)(hn:(n:Int)<=1048576)(hf:SlDeed w a n f)(P:∀i,i<n->cX (f i)):Calls Tryz.prog 50 #[ZJ #[Z a n j_]] w λe w'=>∃a c R,e=ZI (ZJ #[Z a (ZU R) c])/\DRow w' (z (A w)+3) (Z a (ZU R) c) R/\R.map (·.1)=(List.range n).map f/\(∀r∈R,Som r)/\Below (z (A w)) w w':=by
 have HF:=ae hf;have HM:=ae P;clear hf P;obtain⟨ro,hi,DE,n8,sm⟩:=NP lH;obtain⟨DQ,hj,qr,ur,th⟩:=NP gC;obtain⟨W0,ZR⟩:∃W:E,ZV (ZV (ZV w (N #[Z a n j_] 25)) (N #[Z Y 0 0] 25)) (N #[Z Y 0 0] 25)=W:=⟨_,rfl⟩
 obtain⟨A0,-,-,-,-⟩:=nb3 ZR;have X:=ae ZR;clear ZR;have X0:=ae (IC w (Z a n j_) 25);go_enter Tryz.func50,Tryz.ntmps50;go_wp2;rw[X.i] at X0 ⊢;clear X;go_loopg [4] n (λg i wr=>∃(k:Nat) (vo:ZB) (R:List DR),k+g=n/\i=J I k/\Hid (CpB wr (z (A w)) (Z a n j_) vo)/\Hid (DRow wr (z (A w)+3) vo R)/\Hid (R.map (·.1)=(List.range k).map f)/\Hid (∀r∈R,Som r)/\Hid (Below (z (A w)) w wr));case atStart=>exact⟨0,_,[],by omega,rfl,X0.i,jK _ _,rfl,λr ZN=>absurd ZN (by simp),A0.i⟩
 case round =>
  clear X0 A0;obtain⟨k,vo,R,hk,rfl,ZP,D1,HE,fd,B1⟩:=hrel;have ca:=ZP.i.a;have O:=ZP.i.size;obtain⟨ao,co,rfl⟩:=lQ D1.i.u;by_cases ex:k<n
  ·have ld:ZU R=k:=by have:=xT List.length HE.i;simpa using this
   have HRL:=ae ld;have hR4:(ZU R:Int)<=1048576:=by omega
   clear ld;obtain⟨b,off,rfl,ZT⟩:=(HF.i.aa B1.i ly).resolve_left (by omega);have hbl:=ZT.1;obtain⟨c0,c1,c2,c3,⟨b0,e0,c4,h4⟩,⟨b1,e1,c5,h5⟩⟩:=ZT.2 k ex;clear ZT;obtain⟨mv,ph⟩:=HM.i k ex;have aq:Hid ((List.range (k+1)).map f=(List.range k).map f++[f k]):=by show _=_;rw[PI,NE];rfl
   generalize f k=x at c0 c1 c2 c3 c4 c5 h4 h5 mv ph aq;obtain⟨W2,G⟩:∃W:E,ZV wr (N #[U x.e,J I x.L,J I x.M,U x.H,Z b0 x.h e0,Z b1 x.f e1] 62)=W:=⟨_,rfl⟩
   obtain⟨D2,-,-⟩:=nb1 G;have D:=ae G;clear G;have S2:=ae (jG wr (U x.e) (J I x.L) (J I x.M) (U x.H) (Z b0 x.h e0) (Z b1 x.f e1) 62);have H4:=ae (h4.aa D2.i ly);have H5:=ae h5;have hz2':z (A wr)+1=z (A W2):=by rw[<-D.i];simp
   have s4:=S2.i.c4.1;clear h4 h5;go_wp2_with fail;rw[D.i] at S2 s4 ⊢;clear D;clear ca c0 c1 c2 c3 c4 c5 s4;refine(jf b0 x.h e0 x.q _ (by omega) H4.i).P ?_;rintro e w3⟨Z8,ZZ,rfl,V,L⟩;have D3:=ae (D2.i.k (L.P (by omega)));have S3:=ae (S2.i.aa L (by omega));have hg0:=(cV V).1;obtain⟨s4,y4⟩:=S3.i.c4;have y:=ae (S3.i.set4 (Z (Q (T Z8 0 Y)) x.h ZZ));have H:=ae (D3.i.setCell (p:=(T (z (A wr)) 4 Y)) ly (Z (Q (T Z8 0 Y)) x.h ZZ));have ZM:=ae (aH (R:=z (A wr)) (j:=4) (aE V (show (z (A wr))+1<=z (A W2) by omega)) (by omega) (Z (Q (T Z8 0 Y)) x.h ZZ));have Bk:z (A W2)<=(w3.setCell (T (z (A wr)) 4 Y) (Z (Q (T Z8 0 Y)) x.h ZZ)).heap.size:=by simpa using L.size
   have s5:=y.i.c5.1;clear V L;go_upto_region 7 with fail;generalize World.setCell w3 _ _=l at y H ZM Bk s5 ⊢;clear s4 y4 S3 D3;go_cut [] (λwx=>∃t s,Hid (DBox wx (z (A wr)) (U x.e) (J I x.L) (J I x.M) (U x.H) (Z (Q (T Z8 0 Y)) x.h ZZ) (Z (Q (T t 0 Y)) x.f s))/\Hid (Below (z (A wr)) wr wx)/\Hid (wx.ownsRow (z (A wr)+1) 102 3 (Z (Q (T Z8 0 Y)) x.h ZZ) x.h (bZ x.q x.h))/\Hid (wx.ownsRow (z (A wr)+1) 65 4 (Z (Q (T t 0 Y)) x.f s) x.f (cy x.m x.f)));case first =>
    have At:=y.i.lt;cases b1 with
    |none =>
     have M:x.f=0:=by
      rcases H5.i with h|⟨_,_,h,_⟩
      {exact h};{cases h}
     have ho:cy x.m x.f=[]:=by rw[M];rfl
     have bt:=ae M;have n9:=ae ho;rw[M] at s5 y;have K:(l.setCell (T (z (A wr)) 5 Y) (Z (Q (T (z (A l)) 0 Y)) 0 0)).heap.size=z (A l):=by simp
     have OM:=OV (base:=z (A wr)+1) (e:=65) (size:=4) (l.setCell (T (z (A wr)) 5 Y) (Z (Q (T (z (A l)) 0 Y)) 0 0)) #[] 0 (by rw[K];omega) (by unfold maxLen;omega) rfl;rw[K] at OM;have O5:=ae OM;have A6:=ae ((a8 (z (A l)) (l.setCell (T (z (A wr)) 5 Y) (Z (Q (T (z (A l)) 0 Y)) 0 0))).alloc (by rw[K];exact p7 _) (N #[] 65));have S5:=ae ((y.i.set5 (Z (Q (T (z (A l)) 0 Y)) 0 0)).aa A6.i At);have D5:=ae ((H.i.setCell (p:=(T (z (A wr)) 5 Y)) ly (Z (Q (T (z (A l)) 0 Y)) 0 0)).k (A6.i.P H.i.size));have P5:=ae (K_ (aH (R:=z (A wr)) (j:=5) ZM.i (by omega) (Z (Q (T (z (A l)) 0 Y)) 0 0)) A6.i (by rw[K];exact p7 _));have f5:=y.i.c5.2;clear OM ho M;go_wp2;go_meet;exact⟨z (A l),0,(by show DBox _ _ _ _ _ _ _ _;rw[bt.i];exact S5.i),D5.i,P5.i,(by show World.ownsRow _ _ _ _ _ _ _;rw[n9.i,bt.i];exact O5.i)⟩
    |some ad =>
     have A5:=ae ((BS l).alloc ly (N #[] 65));have R5:Hid (∀j u,(cy x.m x.f)[j]?=Q u->(ZV l (N #[] 65)).cell? (ad.add j)=Q u):=by
      rcases((H5.i.aa H.i ly).aa A5.i ly) with h|⟨bb,oo,h,ZN⟩
      {intro j u hu;rw[h] at hu;simp[cy] at hu};{obtain rfl:=IN h;exact DY ZN}
     have s5':=(A5.i.O (p:=(T (z (A wr)) 5 Y)) y.i.lt).k s5;go_wp2_with (at_builtin;refine DN _ rfl (.tmp 23) (.tmp 25) 60 rfl (z (A l)) 65 ro (ZJ #[U ⟨#[]⟩,ZF ZA,ZF ZA,J I 0]) 4 32 SV hi DE n8 sm rfl (by decide) (Z (Q (T (z (A l)) 0 Y)) 0 0) 0 [] (by simp[Act.eval]) (OV l #[] 0 ly (by unfold maxLen;omega) rfl) ad x.f e1 (cy x.m x.f) (by simp[Act.eval]) (iT x.m x.f) R5.i (AU x.m x.f) (by unfold maxLen;omega) (by omega) (by simp) ?_;intro v5 w5 m q C;simp only[I5,NS] at m;obtain⟨t,s,rfl⟩:∃g c,v5=Z (Q (T g 0 Y)) x.f c:=(by rcases m.2 with⟨rfl,_⟩|⟨g,c,cur,rfl,_⟩;(have:=C.1 rfl;simp at this);exact⟨g,c,rfl⟩);have ZL:=ae (bg A5.i q (by simp) (λj e=>by simp[Value.ownBlock] at e;omega));have O5:=ae m;obtain⟨t5,u5⟩:=(y.i.aa ZL.i y.i.lt).c5;clear m q C);have B:=ae ((y.i.aa ZL.i y.i.lt).set5 (Z (Q (T t 0 Y)) x.f s));have ZS:=ae ((H.i.k (ZL.i.P H.i.size)).setCell (p:=(T (z (A wr)) 5 Y)) ly (Z (Q (T t 0 Y)) x.f s));have ZO:=ae (aH (R:=z (A wr)) (j:=5) (K_ ZM.i ZL.i ly) (by omega) (Z (Q (T t 0 Y)) x.f s));have S:=ae (aH (R:=z (A wr)) (j:=5) (aE O5.i (show (z (A wr))+1<=z (A l) by omega)) (by omega) (Z (Q (T t 0 Y)) x.f s));go_meet;exact⟨_,_,B.i,ZS.i,ZO.i,S.i⟩
   case rest =>
   clear y H ZM s5 H5;obtain⟨t,s,B,ZS,ZO,S⟩:=hcut;revert B ZS ZO S;generalize wc=ZQ;intro B ZS ZO S;have G6:Hid (DSub ZQ (z (A wr)) (x,Z (Q (T Z8 0 Y)) x.h ZZ,Z (Q (T t 0 Y)) x.f s)):=⟨aE ZO.i (by omega),aE S.i (by omega)⟩
   have X6:=ae (ZP.i.aa ZS.i O);obtain⟨q0,_⟩:=B.i.c0;obtain⟨q1,_⟩:=B.i.c1;obtain⟨q2,_⟩:=B.i.c2;obtain⟨q3,_⟩:=B.i.c3;obtain⟨q4,_⟩:=B.i.c4;obtain⟨q5,_⟩:=B.i.c5;obtain⟨m0,m1⟩:=X6.i.o;have A7:=ae ((BS ZQ).alloc ly (N #[U x.e,J I x.L,J I x.M,U x.H,Z (Q (T Z8 0 Y)) x.h ZZ,Z (Q (T t 0 Y)) x.f s] 62));have D7:=ae (ZS.i.k (A7.i.P ZS.i.size));have R7:=ae (D1.i.aa D7.i ly);have G7:=ae (G6.i.aa A7.i ly);have la:z (A w)+3<=z (A (ZV ZQ (N #[U x.e,J I x.L,J I x.M,U x.H,Z (Q (T Z8 0 Y)) x.h ZZ,Z (Q (T t 0 Y)) x.f s] 62))):=nX O D7.i.size;go_wp2_with (at_builtin;refine DN _ rfl (.tmp 29) (.tmp 31) 23 rfl (z (A w)+3) 62 DQ (ZJ #[U ⟨#[]⟩,J I 0,J I 0,U ⟨#[]⟩,Z Y 0 0,Z Y 0 0]) 6 96 QC hj qr ur th rfl (by decide) (Z ao (ZU R) co) (ZU R) (R.flatMap ddV) (by simp[Act.eval]) R7.i.u (T (z (A ZQ)) 0 Y) 1 1 (ddV (x,Z (Q (T Z8 0 Y)) x.h ZZ,Z (Q (T t 0 Y)) x.f s)) (by simp[Act.eval]) rfl (ID ZQ _ _ _ _ _ _ _) (by simp[ddV,Value.oneCell']) (by unfold maxLen;omega) (by omega) la ?_;intro v' w8 m q C;obtain⟨gs,cs,rfl⟩:=dr m (by omega);have E8:=ae (bg (a8 (z (A w)+3) _) q la (λj e=>(R7.i.u.lt j e).1));have M8:=ae (D1.i.more R7.i O G7.i m q);have X8:=ae ((X6.i.aa A7.i X6.i.size).aa E8.i ly);have B8:=ae ((B1.i.k (D7.i.P B1.i.size)).k (E8.i.P (by omega)));obtain⟨k0,k1⟩:=X8.i.o;clear m q C);have M9:=ae (M8.i.set (p:=(T (z (A w)+1+1) 0 Y)) (e:=0) (.inl (by show (z (A w))+1+1<z (A w)+3;omega)) (Z (Q (T gs 0 Y)) (ZU R+1) cs));go_roundg (n - 1 - k);case measure=>omega
   case rel =>refine⟨k+1,Z (Q (T gs 0 Y)) (ZU R+1) cs,R++[(x,Value.slice (Q (T Z8 0 Y)) x.h ZZ,Value.slice (Q (T t 0 Y)) x.f s)],by omega,by go_num,X8.i.i _,M9.i,?_,λr ZN=>(p8.1 ZN).elim (fd.i r) (λh=>by rw[j4.1 h];exact⟨⟨_,_,rfl⟩,_,_,rfl⟩),B8.i.setCell (by show (z (A w))<=z (A w)+2;omega) _⟩;show _=_;rw[aq.i,NE,HE.i];rfl
  ·have e:k=n:=by omega
   subst e;obtain⟨r0,z0⟩:=ZP.i.r;obtain⟨o0,_⟩:=ZP.i.o;go_wp2;exact bp (v:=ZJ #[Z ao (ZU R) co]) (by simp[results,Tryz.results50,go_sem,r0]) rfl ⟨ao,co,R,rfl,D1.i.set (e:=0) (.inl (by show (z (A w))+1<z (A w)+3;omega)) _,HE.i,fd.i,B1.i.setCell (by show (z (A w))<=z (A w)+1;omega) _⟩
