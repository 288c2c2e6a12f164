import Derived.Test.YtamacmnikdejeaaGreatDoorZS
import Derived.Maps.OwnSet
import Derived.Maps.Views
import Derived.Maps.RangeWalk
import Derived.StringKeys
import Derived.DeepKeys4
set_option maxRecDepth 100000
set_option maxHeartbeats 4000000
open Go.Addr renaming mk->T
open Option renaming none->Z,some->N
open Go.IntKind renaming i64->J
open Go renaming World->H,Value->QS
open Bool renaming false->QQ,true->QR
namespace Go.Proofs.YtamacmnikdejeaaGreatDoor.Vp
open RowKit Go.Maps
def ii (v:QS):Option (DataW QS × List MemPlace):=N (.held v,[])
theorem nE:Keyed Tryz.prog 9:=MO Tryz.underlying9
def MapN (w:H)(b n:Nat)(G:List UInt8->Option QS):Prop :=
 ∃ D:DataW QS,w.ownsMap Tryz.prog 9 ii b n D/\∀ s,Maps.has D (.string s)=(G s).isSome/\∀ v,G s=N v->∀ c,D.atKey (.string s) c=.held v
theorem te (w:H):MapN (w.alloc (.map #[] 0)) w.heap.size 0 (fun _=>Z) :=
 ⟨_,N5 w Tryz.prog 9 ii,fun s=>⟨by simp[Maps.has],fun v h=>by cases h⟩⟩
theorem MapN.lt {w:H}{b n:Nat}{G:List UInt8->Option QS}(h:MapN w b n G):b<w.heap.size:=by obtain⟨D,h1,-⟩:=h;exact h1.lt
theorem MapN.isMap {w:H}{b n:Nat}{G:List UInt8->Option QS}(h:MapN w b n G):∃ g c,w.heap[b]?=N (.map g c):=by obtain⟨D,⟨g,f,h1,-⟩,-⟩:=h;exact⟨g,f,h1⟩
theorem MapN.blk {w w':H}{b n:Nat}{G:List UInt8->Option QS}(h:MapN w b n G)(hb:w'.heap[b]?=w.heap[b]?):MapN w' b n G:=by obtain⟨D,⟨f,c,h1,r⟩,h2⟩:=h;exact⟨D,⟨f,c,hb.trans h1,r⟩,h2⟩
theorem MapN.mono {w:H}{b n c:Nat}{G:List UInt8->Option QS}(h:MapN w b n G)(hn:n<=c):MapN w b c G:=by obtain⟨D,h1,h2⟩:=h;exact⟨D,h1.mono hn,h2⟩
theorem MapN.congr {w:H}{b n:Nat}{G c:List UInt8->Option QS}(h:MapN w b n G)(f:∀ s,G s=c s):MapN w b n c:=by obtain rfl:G=c:=funext f;exact h
theorem Bj {D:DataW QS}{G:List UInt8->Option QS}{x:List UInt8}{v:QS}(g:Maps.IsMap D)(h:∀ s,Maps.has D (.string s)=(G s).isSome/\∀ v,G s=N v->∀ b,D.atKey (.string s) b=.held v):∀ s,Maps.has (D.put (.string x) (.held v)) (.string s)=((if s=x then N v else G s:Option QS)).isSome/\∀ u,(if s=x then N v else G s)=N u->∀ b,(D.put (.string x) (.held v)).atKey (.string s) b=.held u:=by
 intro s;by_cases e:s=x
 ·subst e
  refine⟨?_,fun u c b=>?_⟩
  ·rw[OU g (by simp[WideAt.IsKeyLit])]
   simp
  ·simp at c
   subst c;exact Maps.atKey_put_same g (by simp[WideAt.IsKeyLit]) _ _
 ·have f:Lit.string s≠.string x:=by simpa using e
  refine⟨?_,fun u c b=>?_⟩
  ·rw[NA f,eI e]
   exact(h s).1
  ·rw[eI e] at c
   rw[Maps.atKey_put_other f];exact(h s).2 u c b
section
variable (w:H){ops:Array Oper}{rest:List Oper}{o:Oper}{a:Act}{Q0:Exit->Act->H->Prop}
theorem pp (A:o.guard=Z)(m x v:Operand)(t:TypeId)(j:o.op=Op.mapUpdate t m x v)(e:TypeId)(q:Tryz.prog.underlying t=N (.map 9 e))(b n:Nat)(G:List UInt8->Option QS)
  (u:a.eval m=.map (N b)) (g:MapN w b n G) (hn:n<maxLen) (f:ByteArray) (c:QS) (p:a.eval x=.string f) (z:a.eval v=c) (B:f.size<=maxLen)
  (l:∀ h,MapN h b (n+1) (fun s=>if s=f.toList then N c else G s)->w.grownBy h (N b)->wpList Tryz.prog ops Q0 rest (a.put o.dst undef) h) :
  wpList Tryz.prog ops Q0 (o :: rest) a w:=by
 obtain⟨D,i,r⟩:=g;refine NQ w A m x v t j 9 e nE q ii b n D u i hn (.string f) c _ p z (MQ Tryz.underlying9 B) (.held c) [] rfl ?_;intro y h1 h2;refine l y ⟨_,h1,?_⟩ h2;have:=Bj (x:=f.toList) (v:=c) i.isMap r;rw[D0] at this ⊢;exact this
theorem fi (g:o.guard=Z)(m x:Operand)(t:TypeId)(q:o.op=Op.lookup t m x QQ)(e:TypeId)(y:Tryz.prog.underlying t=N (.map 9 e)){z:QS}(hz:(zeroValue e).run Tryz.prog w=.ok z w)(b n:Nat)(G:List UInt8->Option QS)
  (A:a.eval m=.map (N b)) (h:MapN w b n G) (c:ByteArray) (s:a.eval x=.string c) (F:c.size<=maxLen) (u:QS) (E:(G c.toList).getD z=u)
  (r:wpList Tryz.prog ops Q0 rest (a.put o.dst u) w) :
  wpList Tryz.prog ops Q0 (o :: rest) a w:=by
 obtain⟨D,C,p⟩:=h;obtain⟨v,ps,j,i⟩:=C.lookup nE y hz (zd:=.held z) (zp:=[]) rfl (MQ Tryz.underlying9 F);have B:v=u:=by
  rw[<-E];have f:DataW.held v=D.atKey (.string c.data.toList) (.held z):=by unfold ii at i;simp only[JL,IT] at i;exact i.1
  rw[<-D0] at f;cases g:G c.toList with
  | none =>
   have ZB:Maps.has D (.string c.toList)=QQ:=by rw[(p _).1,g];rfl
   rw[Maps.atKey_of_not_has ZB] at f;simpa using f
  | some u =>rw[(p _).2 u g] at f;simpa using f
 refine OP g fun K' l=>?_;unfold Oper.wp;simp[execOp,q,A,s,j,Result.andThen];rw[B];exact l _ _ r
end
section
variable (w:H){ops:Array Oper}{rest:List Oper}{o:Oper}{a:Act}{Q0:Exit->Act->H->Prop}
def RgN (w:H)(b r n:Nat)(G:List UInt8->Option QS)(left:List UInt8->Bool)(cnt:Nat):Prop :=
 ∃ (D:DataW QS) (L:Lit->Bool),w.ranges Tryz.prog 9 ii b r n D L cnt/\(∀ s,Maps.has D (.string s)=(G s).isSome/\∀ v,G s=N v->∀ c,D.atKey (.string s) c=.held v)/\∀ s,left s=L (.string s)
theorem RgN.left_eq {w:H}{b r n:Nat}{G:List UInt8->Option QS}{left:List UInt8->Bool}{cnt:Nat}(h:RgN w b r n G left cnt):w.rangeLeft b r=cnt:=by obtain⟨D,L,h1,-,-⟩:=h;exact h1.left_eq
theorem RgN.blk {w w':H}{b r n:Nat}{G:List UInt8->Option QS}{left:List UInt8->Bool}{cnt:Nat}(h:RgN w b r n G left cnt)(hb:w'.heap[b]?=w.heap[b]?)(m:w'.heap[r]?=w.heap[r]?):RgN w' b r n G left cnt:=by obtain⟨D,L,⟨i,f,c,seen,c0,h1,h2,j,o,l,p⟩,g,hL⟩:=h;exact⟨D,L,⟨i,f,c,seen,c0,hb.trans h1,h2,j,o,m.trans l,p⟩,g,hL⟩
theorem RgN.lt {w:H}{b r n:Nat}{G:List UInt8->Option QS}{left:List UInt8->Bool}{cnt:Nat}(h:RgN w b r n G left cnt):b<w.heap.size/\r<w.heap.size/\r≠b:=by obtain⟨D,L,h1,-,-⟩:=h;exact⟨h1.owns.lt,h1.lt,h1.ne⟩
theorem zn (r:o.guard=Z)(m:Operand)(t:TypeId)(h:o.op=Op.range t m)(e:TypeId)(j:Tryz.prog.underlying t=N (.map 9 e))(b n:Nat)(G:List UInt8->Option QS)
  (p:a.eval m=.map (N b)) (f:MapN w b n G)
  (i:∀ c cnt,RgN c b w.heap.size n G (fun s=>(G s).isSome) cnt->w.grownBy c Z->c.heap.size=w.heap.size+1->wpList Tryz.prog ops Q0 rest (a.put o.dst (.pointer (N (T w.heap.size 0 Z)))) c) :
  wpList Tryz.prog ops Q0 (o :: rest) a w:=by
 obtain⟨D,q,g⟩:=f;exact wpList_range_own w r m t h 9 e nE j ii b n D p q fun c h1 h2 l=>i c _ ⟨D,_,h1,g,fun s=>(g s).1.symm⟩ h2 l
theorem Bl (P:o.guard=Z)(F:Operand)(t:o.op=Op.next F QQ)(b r n:Nat)(G:List UInt8->Option QS)(left:List UInt8->Bool)(cnt:Nat)
  (q:a.eval F=.pointer (N (T r 0 Z))) (h:RgN w b r n G left cnt)
  (j:(∀ s,left s=QQ)->wpList Tryz.prog ops Q0 rest (a.put o.dst (.tuple #[.bool QQ])) w)
  (l:∀ (x:ByteArray) (v:QS) (f:H) (c:Nat),x.size<=maxLen->left x.toList=QR->G x.toList=N v->RgN f b r n G (fun s=>left s && decide (s≠x.toList)) c->c < cnt ->
   w.grownBy f (N r)->f.heap.size=w.heap.size->(Instr.entry (.pointer (N (T r 0 Z)))).run Tryz.prog f=.ok (.tuple #[.string x,v]) f->wpList Tryz.prog ops Q0 rest (a.put o.dst (.tuple #[.bool QR,.string x,v])) f) :
  wpList Tryz.prog ops Q0 (o :: rest) a w:=by
 obtain⟨D,L,hR,z,hL⟩:=h;refine OP P fun K' m=>?_;unfold Oper.wp;rcases hR.next nE o.type with ⟨h0,R,g⟩ | ⟨key,v,kl,y,f,c,B,C,A,p,g,ZB,K,M,QZ,ZA⟩
 ·simp[execOp,t,q,g,Result.andThen]
  exact m _ _ (j fun s=>by rw[hL,R])
 ·obtain⟨x,rfl,rfl,O⟩:=WideMaps.string_of_keyOf Tryz.underlying9 B
  simp[execOp,t,q,g,Result.andThen];have i:Maps.has D (.string x.toList)=QR:=by rw[D0];exact Maps.has_true_of_atKey p
  obtain⟨u,Q9⟩:∃ u,G x.toList=N u:=by rw[(z _).1] at i;exact Option.isSome_iff_exists.1 i
  have E:u=v:=by have h1:=(z _).2 u Q9 (.held u);rw[D0,p] at h1;unfold ii at A;simp only[JL] at A;rw[<-A] at h1;simpa using h1.symm
  subst E;refine m _ _ (l x u f c O (by rw[hL,D0];exact C) Q9 ⟨D,_,ZB,z,fun s=>?_⟩ K M QZ ZA);show(left s && decide (s≠x.toList))=_;rw[hL,D0];by_cases e:s=x.data.toList
  ·rw[e,WideAt.sameKey_self (by simp[WideAt.IsKeyLit])]
   simp
  ·rw[Maps.sameKey_ne (by simpa using e)]
   simp[e]
end
structure Told where
 kind:Int
 text:ByteArray
 act:Int
def tv (t:Told):QS:=.agg #[.int J t.kind,.string t.text,.int J t.act]
def TOk (t:Told):Prop:=(Lit.int J t.kind).wf=QR/\t.text.size<=maxLen/\(Lit.int J t.act).wf=QR
theorem FK {t u:Told}(h:tv t=tv u):t=u:=by
 cases t;cases u
 simp[tv] at h;simp[h]
def tk (t:Told):Lit:=.string (keyBytes [.int J t.kind,.string t.text.data.toList,.int J t.act])
theorem Bm:laidOutB Tryz.prog=QR:=by kernel_rfl
theorem ti:(169:TypeId)<Tryz.prog.types.size:=J8 (by kernel_rfl)
theorem zo:(match Tryz.prog.underlying 169 with | some (.array _ _) | some (.struct _)=>QR | _=>QQ)=QR:=by rw[Tryz.underlying169]
theorem Eo:Tryz.prog.keyTypeAt 2 169=QR:=by kernel_rfl
theorem Bn:WideMaps.KeyLaw Tryz.prog 169:=deep_law_laid Bm (m:=2) (by omega) ti Eo zo
theorem told_key:Keyed Tryz.prog 169:=Keyed.of_law Bn
theorem pq:Tryz.prog.cellsOf 169=3:=by kernel_rfl
theorem Bo:Tryz.prog.cellsOf 3=1:=by kernel_rfl
theorem Bp:Tryz.prog.cellsOf 9=1:=by kernel_rfl
theorem zq:Tryz.prog.keyType 169=QR:=by kernel_rfl
theorem xy:∃ m,Tryz.prog.types.size=m+1:=by have h:(169:Nat)<Tryz.prog.types.size:=ti;generalize Tryz.prog.types.size=k at h ⊢;exact⟨k - 1,by omega⟩
theorem mO {t:Told}(h:TOk t):keyOf Tryz.prog 169 (tv t)=N (tk t):=by
 obtain⟨b,h1,h2⟩:=h;obtain⟨m,c⟩:=xy;unfold keyOf;rw[Tryz.underlying169];simp only[];rw[gA (by rw[zq];simp[tv,Value.formed,Tryz.underlying169,pq]),c];have f:Tryz.prog.keyLits (m+1+1) 169 (tv t).cells.toList=N [.int J t.kind,.string t.text.data.toList,.int J t.act]:=by simp[Program.keyLits,Tryz.underlying169,pq,Bo,Bp,tv,Value.cells,Tryz.underlying3,Tryz.underlying9,b,h1,h2]
 rw[f];rfl
theorem zu {t:Told}(h:TOk t):WideAt.IsKeyLit (tk t):=told_key.key (mO h)
theorem zv {t u:Told}(c:TOk t)(b:TOk u)(h:tk t=tk u):t=u :=
 FK (told_key.inj (mO c) (h ▸ mO b))
def SetT (w:H)(b n:Nat)(S:Told->Prop):Prop :=
 ∃ D:DataW Unit,w.ownsMap Tryz.prog 169 unitElem b n D/\(∀ c,Maps.has D c=QR->∃ t,S t/\c=tk t)/\∀ t,S t->TOk t/\Maps.has D (tk t)=QR
theorem Bq (w:H):SetT (w.alloc (.map #[] 0)) w.heap.size 0 (fun _=>False) :=
 ⟨_,N5 w Tryz.prog 169 unitElem,fun kl h=>by simp[Maps.has] at h,fun t h=>h.elim⟩
theorem SetT.lt {w:H}{b n:Nat}{S:Told->Prop}(h:SetT w b n S):b<w.heap.size:=by obtain⟨D,h1,-⟩:=h;exact h1.lt
theorem SetT.isMap {w:H}{b n:Nat}{S:Told->Prop}(h:SetT w b n S):∃ g c,w.heap[b]?=N (.map g c):=by obtain⟨D,⟨g,f,h1,-⟩,-⟩:=h;exact⟨g,f,h1⟩
theorem SetT.blk {w w':H}{b n:Nat}{S:Told->Prop}(h:SetT w b n S)(hb:w'.heap[b]?=w.heap[b]?):SetT w' b n S:=by obtain⟨D,⟨f,c,h1,r⟩,h2⟩:=h;exact⟨D,⟨f,c,hb.trans h1,r⟩,h2⟩
theorem SetT.mono {w:H}{b n c:Nat}{S:Told->Prop}(h:SetT w b n S)(hn:n<=c):SetT w b c S:=by obtain⟨D,h1,h2⟩:=h;exact⟨D,h1.mono hn,h2⟩
theorem tj (b n:Nat)(S:Told->Prop)(x:Told)(w:H)(hn:(n:Int)<=1048576)(l:TOk x)(h:SetT w b n S):Calls Tryz.prog 142 #[.map (N b),tv x] w fun e q=>e=.returned (.tuple #[])/\SetT q b (n+1) (fun t=>t=x∨S t)/\w.grownBy q (N b):=by
 obtain⟨D,f,h1,h2⟩:=h;have r:=ae (World.grownBy_alloc w (.cells #[.int J x.kind,.string x.text,.int J x.act] 169) (N b));have z:=ae (f.alloc (.cells #[.int J x.kind,.string x.text,.int J x.act] 169));have A:=ae (mO l)
 have s:=ae (show(∀ i,Maps.has (D.put (tk x) (.agg [])) i=QR->∃ t,(t=x∨S t)/\i=tk t)/\∀ t,(t=x∨S t)->TOk t/\Maps.has (D.put (tk x) (.agg [])) (tk t)=QR from by
  refine⟨fun i m=>?_,fun t j=>?_⟩
  ·by_cases e:i=tk x
   ·exact⟨x,.inl rfl,e⟩
   ·rw[NA e] at m
    obtain⟨t,j,rfl⟩:=h1 i m;exact⟨t,.inr j,rfl⟩
  ·by_cases e:t=x
   ·subst e
    exact⟨l,OU f.isMap (zu l) _⟩
   ·have j:S t:=j.resolve_left e
    have p:=h2 t j
    exact⟨p.1,by rw[NA (fun h=>e (zv p.1 l h))];exact p.2⟩)
 clear f h1 h2;show Calls Tryz.prog 142 #[.map (N b),.agg #[.int J x.kind,.string x.text,.int J x.act]] w _;have o:=ae (show keyOf Tryz.prog 169 (.agg #[.int J x.kind,.string x.text,.int J x.act])=N (tk x) from A.out);go_enter Tryz.func142,Tryz.ntmps142;go_wp2_with (at_mapUpdate;refine NQ _ rfl _ _ _ 103 rfl 169 173 told_key Tryz.underlying103 unitElem b n D rfl z.out (by unfold maxLen;omega) _ _ _ rfl rfl o.out _ [] unitElem_mk ?_;intro w1 g c;have u:=ae g;have y:=ae c;clear g c);go_end0;exact⟨rfl,⟨_,u.out,s.out⟩,r.out.trans y.out⟩
def SetO (w:H)(c:Option Nat)(n:Nat)(S:Told->Prop):Prop:=match c with | none=>∀ t,¬ S t | some b=>SetT w b n S
def RgT (w:H)(f:Option Nat)(r n:Nat)(S L:Told->Prop)(cnt:Nat):Prop :=
 match f with
 | none=>(∀ t,¬ S t)/\(∀ t,¬ L t)/\cnt=0/\w.heap[r]?=N (.mapIter Z 0 #[] 0)
 | some b=>∃ (D:DataW Unit) (l:Lit->Bool),w.ranges Tryz.prog 169 unitElem b r n D l cnt/\(∀ c,l c=QR->∃ t,L t/\c=tk t)/\∀ t,L t->S t/\TOk t/\l (tk t)=QR
def jB (w:H)(c:Option Nat)(r:Nat):Nat:=match c with | none=>0 | some b=>w.rangeLeft b r
theorem RgT.left_eq {w:H}{c:Option Nat}{r n:Nat}{S L:Told->Prop}{cnt:Nat}(h:RgT w c r n S L cnt):jB w c r=cnt:=by
 cases c with
 | none=>exact h.2.2.1.symm
 | some b=>obtain⟨D,l,h1,-⟩:=h;exact h1.left_eq
theorem RgT.blk {w w':H}{f:Option Nat}{r n:Nat}{S L:Told->Prop}{cnt:Nat}(h:RgT w f r n S L cnt)(hb:∀ b,f=N b->w'.heap[b]?=w.heap[b]?)(i:w'.heap[r]?=w.heap[r]?):RgT w' f r n S L cnt:=by
 cases f with
 | none=>exact⟨h.1,h.2.1,h.2.2.1,i.trans h.2.2.2⟩
 | some b =>obtain⟨D,l,⟨j,g,c,seen,c0,h1,h2,m,p,o,q⟩,hL⟩:=h;exact⟨D,l,⟨j,g,c,seen,c0,(hb b rfl).trans h1,h2,m,p,i.trans o,q⟩,hL⟩
theorem RgT.lt {w:H}{c:Option Nat}{r n:Nat}{S L:Told->Prop}{cnt:Nat}(h:RgT w c r n S L cnt):r<w.heap.size/\∀ b,c=N b->b<w.heap.size/\b≠r:=by
 cases c with
 | none=>exact⟨(nX.1 h.2.2.2).1,fun b e=>by cases e⟩
 | some b =>obtain⟨D,l,h1,-⟩:=h;exact⟨h1.lt,fun b' e=>by cases e;exact⟨h1.owns.lt,fun e=>h1.ne e.symm⟩⟩
section
variable (w:H){ops:Array Oper}{rest:List Oper}{o:Oper}{a:Act}{Q0:Exit->Act->H->Prop}
theorem re (r:o.guard=Z)(m:Operand)(h:o.op=Op.range 103 m)(g:Option Nat)(n:Nat)(S:Told->Prop)
  (q:a.eval m=.map g) (c:SetO w g n S)
  (j:∀ f cnt,RgT f g w.heap.size n S S cnt->w.grownBy f Z->f.heap.size=w.heap.size+1->wpList Tryz.prog ops Q0 rest (a.put o.dst (.pointer (N (T w.heap.size 0 Z)))) f) :
  wpList Tryz.prog ops Q0 (o :: rest) a w:=by
 cases g with
 | none =>refine OP r fun K' l=>?_;unfold Oper.wp;have i:=run_range_nilMap (P:=Tryz.prog) w 103 169 173 Tryz.underlying103;simp[execOp,h,q,i,Result.andThen];exact l _ _ (j _ 0 ⟨c,c,rfl,(J5 w _).1⟩ (World.grownBy_alloc w _ Z) (by simp))
 | some b =>obtain⟨D,y,h1,h2⟩:=c;exact wpList_range_own w r m _ h 169 173 told_key Tryz.underlying103 unitElem b n D q y fun f A x z=>j f _ ⟨D,_,A,fun u s=>h1 u s,fun t p=>⟨p,h2 t p⟩⟩ x z
theorem tl (M:o.guard=Z)(ZA:Operand)(s:o.op=Op.next ZA QQ)(F:Option Nat)(r n:Nat)(S L:Told->Prop)(cnt:Nat)
  (q:a.eval ZA=.pointer (N (T r 0 Z))) (h:RgT w F r n S L cnt)
  (j:(∀ t,¬ L t)->wpList Tryz.prog ops Q0 rest (a.put o.dst (.tuple #[.bool QQ])) w)
  (A:∀ (t:Told) (g:H) (f:Nat),S t->L t->RgT g F r n S (fun u=>L u/\u≠t) f->f < cnt ->
   w.grownBy g (N r)->g.heap.size=w.heap.size->(Instr.entry (.pointer (N (T r 0 Z)))).run Tryz.prog g=.ok (.tuple #[.agg #[.int J t.kind,.string t.text,.int J t.act],.agg #[]]) g->wpList Tryz.prog ops Q0 rest (a.put o.dst (.tuple #[.bool QR,.agg #[.int J t.kind,.string t.text,.int J t.act],.agg #[]])) g) :
  wpList Tryz.prog ops Q0 (o :: rest) a w:=by
 cases F with
 | none =>
  obtain⟨h0,h1,h2,QX⟩:=h;refine OP M fun QY i=>?_;unfold Oper.wp;have c:(Instr.next (.pointer (N (T r 0 Z))) QQ o.type).run Tryz.prog w=.ok (.tuple #[.bool QQ]) w:=by simp only[Instr.next,getObj,Sem.run_bind,Sem.run,QX,Result.andThen];rfl
  simp[execOp,s,q,c,Result.andThen];exact i _ _ (j h1)
 | some b =>
  obtain⟨D,l,hR,B,p⟩:=h;refine OP M fun QY i=>?_;unfold Oper.wp;rcases hR.next told_key o.type with ⟨h0,hl,c⟩ | ⟨Q2,v,E,y,g,f,G,ZB,hv,hat,c,Q9,QZ,O,P,K⟩
  ·simp[execOp,s,q,c,Result.andThen]
   exact i _ _ (j fun t QW=>by have:=(p t QW).2.2;rw[hl] at this;cases this)
  ·obtain⟨t,C,rfl⟩:=B E ZB
   obtain⟨X,x,hlt2⟩:=p t C;obtain rfl:Q2=tv t:=told_key.inj G (mO x);obtain⟨rfl,-⟩:=unitElem_inv hv;simp[execOp,s,q,c,Result.andThen];refine i _ _ (A t g f X C ⟨D,_,Q9,fun E m=>?_,fun u z=>?_⟩ QZ O P K)
   ·simp only[gB,Bool.not_eq_true'] at m
    obtain⟨u,z,rfl⟩:=B E m.1;refine⟨u,⟨z,fun e=>?_⟩,rfl⟩;subst e;rw[WideAt.sameKey_self (zu x)] at m;exact absurd m.2 (by simp)
   ·obtain⟨W,R,V⟩:=p u z.1
    refine⟨W,R,?_⟩;show(l (tk u) && !(tk u).sameKey (tk t))=QR;rw[V,Maps.sameKey_ne (fun e=>z.2 (zv R x e))];rfl
end
end Go.Proofs.YtamacmnikdejeaaGreatDoor.Vp
