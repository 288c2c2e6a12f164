import Derived.Test.YtoddkejemcbkmaaGreatDoorSR
import Derived.Lib.Builder
import Derived.Test.YtoddkejemcbkmaaGreatDoorRO
set_option maxRecDepth 100000
set_option maxHeartbeats 2000000
open Go renaming Addr.mk->Q,Value.string->U,Value.int->J,Obj.cells->N,IntKind.i64->I,World->M,Value->ZC,Ending.returned->ZF,World.heap->A,Proofs.Tryz.prog->Pg
open Option renaming none->Y,some->T
open Array renaming size->Z
namespace Go.Proofs.YtoddkejemcbkmaaGreatDoor.Vp
open Tryz RowKit
variable {B C:Nat}{w b:M}{l:List UInt8}
def Pow (w:M):Prop:=Lib.TabIs Pg w "internal/strconv.uint64pow10" .u64 Lib.pow10Tab
theorem gPow:Pg.globalNamed "internal/strconv.uint64pow10"=T 3:=by kernel_rfl
theorem Pow.aa (h:Pow w)(hb:Below B w b)(c:Z (A w)<=B):Pow b:=Joins.tab_stays gPow h hb c
theorem Pow.low (h:Pow w)(hb:Below B w b)(c:3<B):Pow b:=var?_below hb gPow c h
theorem jg{W:M}{os:Array Obj}(h:b.heap=W.heap++os)(h1:b.os=W.os)(h2:b.tape=W.tape)(h3:b.output=W.output)(hB:B<=Z (A W)):Below B W b :=
 ⟨h1,h2,h3,by rw[h,Array.size_append];omega,λi hi=>by rw[h,RQ (by omega)]⟩
theorem oO (m:Nat)(w:M)(hm:(m:Int)<=9223372036854775807)(c:Pow w):Calls Pg 24 #[J I m] w λe b=>e=ZF (U ⟨(Lib.decDigits m).toArray⟩)/\Below (Z (A w)) w b:=by refine(Tryz.strconv_Itoa (m:Int) (by omega) (by omega) _ c).mono ?_;rintro e b ⟨rfl,j,os,f⟩;rw[Lib.itoa_nonneg];refine⟨rfl,?_⟩;rw[f];exact jg (os:=os) rfl rfl rfl rfl (by simp)
def eW (n:Nat):ByteArray:=⟨(Lib.decDigits n).toArray⟩
def iM (b:Bool):ByteArray:=if b then ⟨#[49]⟩ else ⟨#[48]⟩
theorem pH (x:Bool)(w:M):Calls Pg 54 #[.bool x] w λe b=>e=ZF (U (iM x))/\b=w:=by
 cases x
 all_goals
  go_enter func54,ntmps54;go_wp2;go_ret;exact⟨rfl,rfl⟩
theorem sV:(Pg.info? 52).map (·.size)=T 2:=by kernel_rfl
theorem H9:liesAt Pg Pg.depth 52 (2 / Pg.cellsOf 52) 0 52 1=true:=by kernel_rfl
def Bd (w:M)(B b:Nat)(l:List UInt8):Prop:=Lib.IsBuilder 52 5 B b (Lib.byteCells l) w
theorem Bd.lt{b:Nat}(h:Bd w B b l):B<=b/\b<Z (A w):=by
 rcases h with h|h;{exact⟨h.1,h.lt⟩};{exact⟨h.1,h.lt⟩}
theorem j8{m:M}{b:Nat}{p:ZC}{i:List ZC}(h:Lib.BuilderAt 52 5 B b p i w)(hb:Below C w m)(q:Z (A w)<=C):Lib.BuilderAt 52 5 B b p i m:=by
 have hl:=h.lt;obtain⟨s,v,o,j,c⟩:=h;refine⟨s,v,by rw[hb.block b (by omega)];exact o,⟨j.1,?_⟩,c⟩;rcases j.2 with hn|⟨g,cap,l,t,n,f,r⟩
 {exact .inl hn};{exact .inr ⟨g,cap,l,t,n,by rw[hb.block g (lj (gM.1 f).1 q)];exact f,r⟩}
theorem Bd.aa{f:M}{b:Nat}(h:Bd w B b l)(hb:Below C w f)(c:Z (A w)<=C):Bd f B b l :=
 h.elim (λx=>.inl (j8 x hb c)) (λx=>.inr (j8 x hb c))
theorem Bd.new (w:M):Bd (w.alloc (N #[.pointer Y,.slice Y 0 0] 52)) (Z (A w)) (Z (A w)) []:=by refine .inl ⟨n8 _,.slice Y 0 0,?_,AT _ _ _ _,by simp[Value.ownBlock]⟩;show(w.heap.push _)[Z (A w)]?=_;simp
theorem pI (b:Nat)(w:M)(h0:w.cell? (Q b 0 Y)=T (.pointer Y))(c:w.shape? b=T (52,2))(hfz:w.frozen? (Q b 0 Y)=false):Calls Pg 90 #[.pointer (T (Q b 0 Y))] w λe h=>e=ZF (.tuple #[])/\h=w.setCell (Q b 0 Y) (.pointer (T (Q b 0 Y))):=by obtain⟨j,f,g⟩:=MN.1 sV;go_enter U6,ntmps90;go_wp2;rw[Lib.run_to_unsafe w (Q b 0 Y) PH QP f (by rw[g];decide) c (Nat.zero_lt_succ 1)];simp only[Result.andThen];rw[QW];go_wp2;rw[run_callFunc_extern func125 (by kernel_rfl) (by kernel_rfl) (by kernel_rfl) (e:=Extern.AbiNoEscape.same) (by kernel_rfl)];rw[Lib.run_noEscape];simp only[Result.andThen];rw[QW];go_wp2;rw[Lib.run_from_unsafe w (Q b 0 Y) QP PH f c H9];simp only[Result.andThen];rw[QW];go_wp2;go_end0;exact⟨rfl,rfl⟩
theorem qB (b:Nat)(w:M)(h0:w.cell? (Q b 0 Y)=T (.pointer (T (Q b 0 Y)))):Calls Pg 90 #[.pointer (T (Q b 0 Y))] w λe f=>e=ZF (.tuple #[])/\f=w:=by obtain⟨j,c,_⟩:=MN.1 sV;go_enter U6,ntmps90;go_wp2;rw[Lib.run_neq_ptr_same w _ PH c];go_wp2;go_end0;exact⟨rfl,rfl⟩
theorem sO (B b:Nat)(f:List ZC)(w:M)(h:Lib.IsBuilder 52 5 B b f w):Calls Pg 90 #[.pointer (T (Q b 0 Y))] w λe c=>e=ZF (.tuple #[])/\(Lib.BuilderAt 52 5 B b (.pointer (T (Q b 0 Y))) f c/\Below B w c):=by
 rcases h with h|h;{refine(pI b w h.cell0 h.shape h.frozen0).mono ?_;rintro e c ⟨rfl,rfl⟩;exact⟨rfl,h.used _,(eL B w).setCell (p:=(Q b 0 Y)) h.1 _⟩};{refine(qB b w h.cell0).mono ?_;rintro e c ⟨rfl,rfl⟩;exact⟨rfl,h,eL B _⟩}
theorem d9 (B b:Nat)(l:List UInt8)(c:UInt8)(w:M)(h:Bd w B b l)(hlen:l.length+1<=140737488355328)(hBw:B<=Z (A w)):Calls Pg 47 #[.pointer (T (Q b 0 Y)),J .u8 c.toNat] w λe ZR=>e=ZF .nilIface/\Bd ZR B b (l++[c])/\Below B w ZR:=by
 go_enter func47,ntmps47;go_wp2_with (go_at_call 90;refine(sO B b _ _ h).mono ?_);rintro e n ⟨rfl,h1,q⟩;have C:=h1.lt;obtain⟨E,v,j,i,t⟩:=h1;have c0:n.cell? (Q b 0 Y)=T (.pointer (T (Q b 0 Y))):=by rw[IA j];rfl
 have c1:n.cell? (Q b 1 Y)=T v:=by rw[IA j];rfl
 have m:Bs n B v l:=by rw[M5] at i;exact i
 have u:=ae m;have G:=ae j;have F:=ae t;have D:=ae q;have hs1:Z (A w)<=Z (A n):=q.size;clear i m j t q;go_wp2_with (at_builtin;refine mG rfl _ _ rfl B _ l rfl ?h1 (Q (Z (A n)) 0 Y) 1 [c] rfl ?h2 ?h3 ?h4 ?_);case h1=>exact u.out.aa (br.alloc ly _) ly
 case h2=>exact gA (by simp)
 case h3=>simp only[eT,nX];omega
 case h4=>simp;omega
 intro v' s r o;obtain⟨g,cap,rfl,hg3,hg4⟩:=r.aq (by simp);have f:s.heap[b]?=T (N #[.pointer (T (Q b 0 Y)),v] 52 (0,0)):=by rw[o.block b (by simp;omega) (λe=>F.out e.symm),VE n _ b C];exact G.out
 have d0:s.cell? (Q b 0 Y)=T (.pointer (T (Q b 0 Y))):=by rw[IA f];rfl
 have d1:s.cell? (Q b 1 Y)=T v:=by rw[IA f];rfl
 have f1:s.frozen? (Q b 1 Y)=false:=MW f 1;have y:=ae f;have x:=ae r;have z:=ae o;clear f r o;go_wp2;go_ret;refine⟨rfl,.inr (Lib.BuilderAt.put (T:=52) (e:=5) E y.out (bs':=Lib.byteCells (l++[c])) ?_ (by decide)),?_⟩;{have:=x.out;unfold Bs at this;rw[M5];simpa using this};{exact((D.out.alloc (by omega) _).grown z.out (by simp;omega) (λk H=>(P6 u.out k H).1)).setCell (p:=(Q b 1 Y)) E _}
theorem pJ (B b:Nat)(l:List UInt8)(w:M)(h:Bd w B b l)(f:B<=Z (A w)):Calls Pg 27 #[.pointer (T (Q b 0 Y))] w λe g=>e=ZF (U ⟨l.toArray⟩)/\Below B w g :=
 (Tryz.Builder_String_any_k B b l w (Lib.IsBuilderF.of h) f).mono λ_ _ ⟨a,_,c,_⟩=>⟨a,c⟩
theorem Gi (j:Nat)(h:j<(⟨#[48,49,50,51,52,53,54,55,56,57,97,98,99,100,101,102]⟩:ByteArray).size):(⟨#[48,49,50,51,52,53,54,55,56,57,97,98,99,100,101,102]⟩:ByteArray)[j]=eO j:=by have h':j<16:=h;rcases(show j=0∨j=1∨j=2∨j=3∨j=4∨j=5∨j=6∨j=7∨j=8∨j=9∨j=10∨j=11∨j=12∨j=13∨j=14∨j=15 by omega) with rfl|rfl|rfl|rfl|rfl|rfl|rfl|rfl|rfl|rfl|rfl|rfl|rfl|rfl|rfl|rfl;all_goals rfl
theorem mQ (s:ByteArray)(w:M)(hs:s.size<=2000):Calls Pg 49 #[U s] w λe ZP=>e=ZF (U ⟨(aJ s.data.toList).toArray⟩)/\Below (Z (A w)) w ZP:=by
 have D:=ae (Bd.new w);go_enter func49,ntmps49;go_wp2_with fail;refine(d9 (Z (A w)) (Z (A w)) [] 34 _ D.out (by simp) (by simp)).mono ?_;rintro e B ⟨rfl,q,o⟩;have n:=ae q;have m:Hid (Below (Z (A w)) w B):=(br.alloc ly _).trans o;have g:Z (A w)+1<=Z (A B):=by have:=o.size;simpa using this
 clear q o D;go_wp2;go_loopw [8] (λi wr=>∃k:Nat,k<=s.size/\i=J I k/\Bd wr (Z (A w)) (Z (A w)) (qTo s.data.toList k)/\Below (Z (A w)) w wr/\(Z (A w))<Z (A wr)) (λi _=>s.size - (intOf i).toNat);case atStart=>exact⟨0,by omega,rfl,n.out,m.out,g⟩
 case round =>
  clear g n m;obtain⟨k,hk,rfl,q,o,g⟩:=hrel;have n:=ae q;have m:=ae o;clear o q;have hql:=tr s.data.toList k;by_cases F:k<s.size
  ·have r:=ae (tq s k F);have hc:=s[k].toNat_lt;go_wp2_with fail;refine(er s[k] _).mono ?_;rintro e ZP ⟨rfl,rfl⟩;cases hp:b9 s[k] with
   |true =>
    have x:Hid (enc s[k]=[s[k]]):=by
     show enc s[k]=[s[k]]
     unfold enc;rw[p7 hp]
    clear hp;go_wp2_with fail;refine(d9 (Z (A w)) (Z (A w)) _ s[k] _ n.out (by omega) (by omega)).mono ?_;rintro e ZR ⟨rfl,c,b⟩;have f:=ae c;have j:=ae (m.out.trans b);have l:=lj g b.size;clear c b;go_wp2;exact⟨⟨k+1,by omega,by go_num,by rw[r.out,x.out];exact f.out,j.out,l⟩,by simp[intOf];omega⟩
   |false =>
    have x:Hid (enc s[k]=[92]++dT s[k]):=by show enc s[k]=[92]++dT s[k];unfold enc;rw[nD (by simp[hp])];rfl
    clear hp;go_wp2_with fail;refine(d9 (Z (A w)) (Z (A w)) _ 92 _ n.out (by omega) (by omega)).mono ?_;rintro e ZR ⟨rfl,c,b⟩;have f:=ae c;have j:=ae (m.out.trans b);have l:=lj g b.size;clear c b;go_wp2_with fail;refine(d9 (Z (A w)) (Z (A w)) _ _ _ f.out (by simp;omega) (by omega)).mono ?_;rintro e ZO ⟨rfl,u,h⟩;have E:=ae u;have G:=ae (j.out.trans h);have y:=lj l h.size;clear u h;go_wp2_with fail;refine(d9 (Z (A w)) (Z (A w)) _ _ _ E.out (by simp;omega) (by omega)).mono ?_;rintro e w4 ⟨rfl,t,p⟩;have C:=ae t;have H:=ae (G.out.trans p);have z:=lj y p.size;clear t p;go_wp2;exact⟨⟨k+1,by omega,by go_num,by rw[r.out,x.out];simpa[dT,Gi] using C.out,H.out,z⟩,by simp[intOf];omega⟩
  ·have e:k=s.size:=by omega
   subst e;have r:Hid (aJ s.data.toList=qTo s.data.toList s.size++[34]):=by
    show aJ s.data.toList=qTo s.data.toList s.size++[34]
    unfold aJ;simp
   go_wp2_with fail;refine(d9 (Z (A w)) (Z (A w)) _ 34 _ n.out (by omega) (by omega)).mono ?_;rintro e ZR ⟨rfl,c,b⟩;have f:=ae c;have j:=ae (m.out.trans b);have l:=lj g b.size;clear c b;rw[<-r.out] at f;go_wp2_with fail;refine(pJ (Z (A w)) (Z (A w)) _ _ f.out (by omega)).mono ?_;rintro e ZO ⟨rfl,h⟩;go_wp2;go_ret;exact⟨rfl,j.out.trans h⟩
theorem sP (k:Nat)(s:ByteArray)(n c:Int)(wd:List UInt8)(w:M)(g:s.size<=2000)(h1:(k:Int)<=15)(hz:1<Z (A w))(hwd:wd.length<=6)
  (c0:w.cell? (Q 1 (k*5) Y)=T (U ⟨wd.toArray⟩)) (c1:w.cell? (Q 1 (k*5+1) Y)=T (J I c)) (hm:0<c) :
  Calls Pg 94 #[.agg #[J I k,U s,J I n]] w λe f=>e=ZF (U ⟨(wd++(32::aJ s.data.toList)).toArray⟩)/\Below (Z (A w)) w f:=by
 have h:=ep s.data.toList;have b:s.data.toList.length=s.size:=by simp
 rw[b] at h;clear b;go_enter func94,ntmps94;go_wp2_with (go_at_call 49;refine(mQ _ _ g).mono ?_;rintro e f ⟨rfl,i⟩);all_goals go_ret
 refine⟨gw ?_,(br.alloc ly _).trans (i.mono (by simp))⟩;apply MP;simp
theorem tU (k m:Nat)(s:ByteArray)(g:Int)(wd:List UInt8)(w:M)(l:m<=2000)(h1:(k:Int)<=15)(hz:1<Z (A w))(hwd:wd.length<=6)(f:Pow w)
  (c0:w.cell? (Q 1 (k*5) Y)=T (U ⟨wd.toArray⟩)) (c1:w.cell? (Q 1 (k*5+1) Y)=T (J I 0)) (c2:w.cell? (Q 1 (k*5+2) Y)=T (J I g)) (hm:0<g) :
  Calls Pg 94 #[.agg #[J I k,U s,J I m]] w λe b=>e=ZF (U ⟨(wd++(32::Lib.decDigits m)).toArray⟩)/\Below (Z (A w)) w b:=by
 have hq:=ny m l;have o:=ae f;clear f;go_enter func94,ntmps94;go_wp2_with fail;have c:=ae (br.alloc (n8 (Z (A w))) (N #[J I k,U s,J I m] 90));refine(Tryz.strconv_Itoa (m:Int) (by omega) (by omega) _ (o.out.aa c.out ly)).mono ?_;rintro e b ⟨rfl,j,os,i⟩;have h:Below (Z (A w)+1) (w.alloc (N #[J I k,U s,J I m] 90)) b:=by rw[i];exact jg (os:=os) rfl rfl rfl rfl (by simp)
 have n:=ae h;clear h i;rw[Lib.itoa_nonneg];go_wp2;all_goals go_ret
 refine⟨gw ?_,c.out.trans (n.out.mono (by omega))⟩;apply MP;simp
theorem sQ (k:Nat)(s:ByteArray)(n:Int)(wd:List UInt8)(w:M)(h1:(k:Int)<=15)(hz:1<Z (A w))
  (c0:w.cell? (Q 1 (k*5) Y)=T (U ⟨wd.toArray⟩)) (c1:w.cell? (Q 1 (k*5+1) Y)=T (J I 0)) (c2:w.cell? (Q 1 (k*5+2) Y)=T (J I 0)) :
  Calls Pg 94 #[.agg #[J I k,U s,J I n]] w λe b=>e=ZF (U ⟨wd.toArray⟩)/\Below (Z (A w)) w b:=by
 go_enter func94,ntmps94;go_wp2;go_ret;exact⟨rfl,br.alloc ly _⟩
theorem xn:∀k:Nat,k<16->(word (k:Int)).length<=6:=by intro k hk;rcases(show k=0∨k=1∨k=2∨k=3∨k=4∨k=5∨k=6∨k=7∨k=8∨k=9∨k=10∨k=11∨k=12∨k=13∨k=14∨k=15 by omega) with rfl|rfl|rfl|rfl|rfl|rfl|rfl|rfl|rfl|rfl|rfl|rfl|rfl|rfl|rfl|rfl;all_goals decide
theorem tV (op:Int)(s:ByteArray)(n:Int)(w:M)(h:aG op s.size n=true)(f:Tab w)(o:TabW w)(l:Pow w):Calls Pg 94 #[.agg #[J I op,U s,J I n]] w λe r=>e=ZF (U ⟨(aR op s.data.toList n).toArray⟩)/\Below (Z (A w)) w r:=by
 obtain⟨k,rfl⟩:∃k:Nat,op=k:=by
  rcases iJ h with ⟨rfl,_⟩|⟨b,_⟩|⟨b,_⟩
  {exact⟨1,rfl⟩};{exact⟨op.toNat,by omega⟩};{exact⟨op.toNat,by omega⟩}
 have c:k<16:=by unfold aG at h;rw[z8] at h;omega
 have c0:=o k c;obtain⟨c1,c2⟩:=f.2 k c;rcases iJ h with ⟨j,p,rfl⟩|⟨b,rfl,m,rfl,q⟩|⟨b,rfl,rfl⟩
 ·have e:aR k s.data.toList 0=word k++(32::aJ s.data.toList):=by rw[j];rfl
  rw[e];exact sP k s 0 _ _ w p (by omega) f.1 (xn k c) c0 c1 (by rw[j];decide)
 ·have e:aR k [] m=word k++(32::Lib.decDigits m):=by
   rcases b with h|h|h|h|h<;>rw[h]<;>simp[aR,kind]
  have g:aF k=0:=by rcases b with h|h|h|h|h<;>rw[h]<;>decide
  have i:0<bN k:=by rcases b with h|h|h|h|h<;>rw[h]<;>decide
  rw[show(⟨#[]⟩:ByteArray).data.toList=[] from rfl,e];rw[g] at c1;exact tU k m _ _ _ w q (by omega) f.1 (xn k c) l c0 c1 c2 i
 ·have e:aR k [] 0=word k:=by
   rcases b with h|h|h|h|h|h|h|h|h<;>rw[h]<;>simp[aR,kind]
  have g:aF k=0:=by rcases b with h|h|h|h|h|h|h|h|h<;>rw[h]<;>decide
  have i:bN k=0:=by rcases b with h|h|h|h|h|h|h|h|h<;>rw[h]<;>decide
  rw[show(⟨#[]⟩:ByteArray).data.toList=[] from rfl,e];rw[g] at c1;rw[i] at c2;exact sQ k _ 0 _ w (by omega) f.1 c0 c1 c2
