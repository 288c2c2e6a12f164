import Derived.Test.YtpmnbjkjpnclaaaGreatDoorRC
import Derived.Lib.OthersKept
import Derived.Lib.Builder
import Derived.Test.YtpmnbjkjpnclaaaGreatDoorRQ
set_option maxRecDepth 100000
set_option maxHeartbeats 4000000
open Go renaming Addr.mk->Q,Value.slice->Z,Value.string->Y,Value.int->J,Value.bool->ZD,Obj.cells->N,IntKind.i64->I,World->M,Value->ZC,TypeId->ZH,Ending.returned->ZF,World.alloc->A,Proofs.Tryz.prog->Pg
open Option renaming none->U,some->T
open Bool renaming false->ZA,true->ZG
namespace Go.Proofs.YtpmnbjkjpnclaaaGreatDoor.Vp
open Tryz RowKit
variable {w c:M}{B b C:Nat}{l:List UInt8}{p:ZC}{i:List ZC}
def Pow (w:M):Prop:=Lib.TabIs Pg w "internal/strconv.uint64pow10" .u64 Lib.pow10Tab
theorem gPow:Pg.globalNamed "internal/strconv.uint64pow10"=T 2:=by kernel_rfl
theorem Pow.aa{b:M}(h:Pow w)(hb:Below B w b)(c:w.heap.size<=B):Pow b:=Joins.tab_stays gPow h hb c
theorem Pow.low{b:M}(h:Pow w)(hb:Below B w b)(c:2<B):Pow b:=var?_below hb gPow c h
theorem jp{W b:M}{os:Array Obj}(h:b.heap=W.heap++os)(h1:b.os=W.os)(h2:b.tape=W.tape)(h3:b.output=W.output)(hB:B<=W.heap.size):Below B W b :=
 ⟨h1,h2,h3,by rw[h,Array.size_append];omega,λi hi=>by rw[h,T0 (by omega)]⟩
theorem pd (m:Nat)(w:M)(hm:(m:Int)<=9223372036854775807)(c:Pow w):Calls Pg 55 #[J I m] w λe b=>e=ZF (Y ⟨(Lib.decDigits m).toArray⟩)/\Below w.heap.size w b:=by refine(Tryz.strconv_Itoa (m:Int) (by omega) (by omega) _ c).mono ?_;rintro e b ⟨rfl,j,os,f⟩;rw[Lib.itoa_nonneg];refine⟨rfl,?_⟩;rw[f];exact jp (os:=os) rfl rfl rfl rfl (by simp)
def fg (n:Nat):ByteArray:=⟨(Lib.decDigits n).toArray⟩
def iU (b:Bool):ByteArray:=if b then ⟨#[49]⟩ else ⟨#[48]⟩
theorem qg (x:Bool)(w:M):Calls Pg 191 #[ZD x] w λe b=>e=ZF (Y (iU x))/\b=w:=by
 cases x
 all_goals
  go_enter func191,ntmps191;go_wp2;go_ret;exact⟨rfl,rfl⟩
theorem tX:(Pg.info? 127).map (·.size)=T 2:=by kernel_rfl
theorem Jd:liesAt Pg Pg.depth 127 (2 / Pg.cellsOf 127) 0 127 1=ZG:=by kernel_rfl
def Bd (w:M)(B b:Nat)(l:List UInt8):Prop:=Lib.IsBuilder 127 5 B b (Lib.byteCells l) w
theorem Bd.lt (h:Bd w B b l):B<=b/\b<w.heap.size:=by
 rcases h with h|h;{exact⟨h.1,h.lt⟩};{exact⟨h.1,h.lt⟩}
theorem kC (h:Lib.BuilderAt 127 5 B b p i w)(hb:Below C w c)(o:w.heap.size<=C):Lib.BuilderAt 127 5 B b p i c:=by
 have hl:=h.lt;obtain⟨t,v,s,m,j⟩:=h;refine⟨t,v,by rw[hb.block b (by omega)];exact s,⟨m.1,?_⟩,j⟩;rcases m.2 with hn|⟨g,cap,f,n,q,l,r⟩
 {exact .inl hn};{exact .inr ⟨g,cap,f,n,q,by rw[hb.block g (lj (eT.1 l).1 o)];exact l,r⟩}
theorem Bd.aa (h:Bd w B b l)(hb:Below C w c)(f:w.heap.size<=C):Bd c B b l :=
 h.elim (λx=>.inl (kC x hb f)) (λx=>.inr (kC x hb f))
theorem Bd.new (w:M):Bd (A w (N #[.pointer U,Z U 0 0] 127)) w.heap.size w.heap.size []:=by refine .inl ⟨n6 _,Z U 0 0,?_,A9 _ _ _ _,by simp[Value.ownBlock]⟩;show(w.heap.push _)[w.heap.size]?=_;simp
theorem qi (b:Nat)(w:M)(h0:w.cell? (Q b 0 U)=T (.pointer U))(c:w.shape? b=T (127,2))(hfz:w.frozen? (Q b 0 U)=ZA):Calls Pg 195 #[.pointer (T (Q b 0 U))] w λe h=>e=ZF (.tuple #[])/\h=w.setCell (Q b 0 U) (.pointer (T (Q b 0 U))):=by obtain⟨j,f,g⟩:=OB.1 tX;go_enter U7,XM;go_wp2;rw[Lib.run_to_unsafe w (Q b 0 U) QB RZ f (by rw[g];decide) c (Nat.zero_lt_succ 1)];simp only[Result.andThen];rw[TJ];go_wp2;rw[run_callFunc_extern func248 (by kernel_rfl) (by kernel_rfl) (by kernel_rfl) (e:=Extern.AbiNoEscape.same) (by kernel_rfl)];rw[Lib.run_noEscape];simp only[Result.andThen];rw[TJ];go_wp2;rw[Lib.run_from_unsafe w (Q b 0 U) RZ QB f c Jd];simp only[Result.andThen];rw[TJ];go_wp2;go_end0;exact⟨rfl,rfl⟩
theorem ri (b:Nat)(w:M)(h0:w.cell? (Q b 0 U)=T (.pointer (T (Q b 0 U)))):Calls Pg 195 #[.pointer (T (Q b 0 U))] w λe c=>e=ZF (.tuple #[])/\c=w:=by obtain⟨j,f,_⟩:=OB.1 tX;go_enter U7,XM;go_wp2;rw[Lib.run_neq_ptr_same w _ QB f];go_wp2;go_end0;exact⟨rfl,rfl⟩
theorem tH (B b:Nat)(f:List ZC)(w:M)(h:Lib.IsBuilder 127 5 B b f w):Calls Pg 195 #[.pointer (T (Q b 0 U))] w λe c=>e=ZF (.tuple #[])/\(Lib.BuilderAt 127 5 B b (.pointer (T (Q b 0 U))) f c/\Below B w c):=by
 rcases h with h|h;{refine(qi b w h.cell0 h.shape h.frozen0).mono ?_;rintro e c ⟨rfl,rfl⟩;exact⟨rfl,h.used _,(dB B w).setCell (p:=(Q b 0 U)) h.1 _⟩};{refine(ri b w h.cell0).mono ?_;rintro e c ⟨rfl,rfl⟩;exact⟨rfl,h,dB B _⟩}
theorem d9 (B b:Nat)(l:List UInt8)(c:UInt8)(w:M)(h:Bd w B b l)(hlen:l.length+1<=140737488355328)(hBw:B<=w.heap.size):Calls Pg 140 #[.pointer (T (Q b 0 U)),J .u8 c.toNat] w λe z=>e=ZF .nilIface/\Bd z B b (l++[c])/\Below B w z:=by
 go_enter func140,ntmps140;go_wp2_with (go_at_call 195;refine(tH B b _ _ h).mono ?_);rintro e n ⟨rfl,h1,r⟩;have C:=h1.lt;obtain⟨E,v,m,i,t⟩:=h1;have c0:n.cell? (Q b 0 U)=T (.pointer (T (Q b 0 U))):=by rw[HU m];rfl
 have c1:n.cell? (Q b 1 U)=T v:=by rw[HU m];rfl
 have j:Bs n B v l:=by rw[OR] at i;exact i
 have x:=ae j;have G:=ae m;have F:=ae t;have D:=ae r;have hs1:w.heap.size<=n.heap.size:=r.size;clear i j m t r;go_wp2_with (at_builtin;refine lm rfl _ _ rfl B _ l rfl ?h1 (Q n.heap.size 0 U) 1 [c] rfl ?h2 ?h3 ?h4 ?_);case h1=>exact x.out.aa (br.alloc ly _) ly
 case h2=>exact gD (by simp)
 case h3=>simp only[eL,nX];omega
 case h4=>simp;omega
 intro v' s q o;obtain⟨g,cap,rfl,hg3,hg4⟩:=q.aq (by simp);have f:s.heap[b]?=T (N #[.pointer (T (Q b 0 U)),v] 127 (0,0)):=by rw[o.block b (by simp;omega) (λe=>F.out e.symm),XH n _ b C];exact G.out
 have d0:s.cell? (Q b 0 U)=T (.pointer (T (Q b 0 U))):=by rw[HU f];rfl
 have d1:s.cell? (Q b 1 U)=T v:=by rw[HU f];rfl
 have f1:s.frozen? (Q b 1 U)=ZA:=OP f 1;have ZR:=ae f;have y:=ae q;have u:=ae o;clear f q o;go_wp2;go_ret;refine⟨rfl,.inr (Lib.BuilderAt.put (T:=127) (e:=5) E ZR.out (bs':=Lib.byteCells (l++[c])) ?_ (by decide)),?_⟩;{have:=y.out;unfold Bs at this;rw[OR];simpa using this};{exact((D.out.alloc (by omega) _).grown u.out (by simp;omega) (λk H=>(RV x.out k H).1)).setCell (p:=(Q b 1 U)) E _}
theorem qj (B b:Nat)(l:List UInt8)(w:M)(h:Bd w B b l)(f:B<=w.heap.size):Calls Pg 82 #[.pointer (T (Q b 0 U))] w λe g=>e=ZF (Y ⟨l.toArray⟩)/\Below B w g :=
 (Tryz.Builder_String_any_k B b l w (Lib.IsBuilderF.of h) f).mono λ_ _ ⟨a,_,c,_⟩=>⟨a,c⟩
theorem Hl (j:Nat)(h:j<(⟨#[48,49,50,51,52,53,54,55,56,57,97,98,99,100,101,102]⟩:ByteArray).size):(⟨#[48,49,50,51,52,53,54,55,56,57,97,98,99,100,101,102]⟩:ByteArray)[j]=cO j:=by have h':j<16:=h;rcases(show j=0∨j=1∨j=2∨j=3∨j=4∨j=5∨j=6∨j=7∨j=8∨j=9∨j=10∨j=11∨j=12∨j=13∨j=14∨j=15 by omega) with rfl|rfl|rfl|rfl|rfl|rfl|rfl|rfl|rfl|rfl|rfl|rfl|rfl|rfl|rfl|rfl;all_goals rfl
theorem ng (s:ByteArray)(w:M)(hs:s.size<=2000):Calls Pg 141 #[Y s] w λe ZR=>e=ZF (Y ⟨(aF s.data.toList).toArray⟩)/\Below w.heap.size w ZR:=by
 have B:=ae (Bd.new w);go_enter func141,ntmps141;go_wp2_with fail;refine(d9 w.heap.size w.heap.size [] 34 _ B (by simp) (by simp)).mono ?_;rintro e H ⟨rfl,q,o⟩;have m:=ae q;have n:Hid (Below w.heap.size w H):=(br.alloc ly _).trans o;have f:w.heap.size+1<=H.heap.size:=by have:=o.size;simpa using this
 clear q o B;go_wp2;go_loopw [8] (λi wr=>∃k:Nat,k<=s.size/\i=J I k/\Bd wr w.heap.size w.heap.size (qTo s.data.toList k)/\Below w.heap.size w wr/\w.heap.size<wr.heap.size) (λi _=>s.size - (intOf i).toNat);case atStart=>exact⟨0,by omega,rfl,m,n,f⟩
 case round =>
  clear f m n;obtain⟨k,hk,rfl,q,o,f⟩:=hrel;have m:=ae q;have n:=ae o;clear o q;have hql:=ui s.data.toList k;by_cases F:k<s.size
  ·have r:=ae (uh s k F);have hc:=s[k].toNat_lt;go_wp2_with fail;refine(er s[k] _).mono ?_;rintro e ZR ⟨rfl,rfl⟩;cases hp:cf s[k] with
   |true =>
    have x:Hid (enc s[k]=[s[k]]):=by
     show enc s[k]=[s[k]]
     unfold enc;rw[p6 hp]
    clear hp;go_wp2_with fail;refine(d9 w.heap.size w.heap.size _ s[k] _ m (by omega) (by omega)).mono ?_;rintro e z ⟨rfl,c,b⟩;have g:=ae c;have j:=ae (n.trans b);have l:=lj f b.size;clear c b;go_wp2;exact⟨⟨k+1,by omega,by go_num,by rw[r.out,x.out];exact g,j,l⟩,by simp[intOf];omega⟩
   |false =>
    have x:Hid (enc s[k]=[92]++dU s[k]):=by show enc s[k]=[92]++dU s[k];unfold enc;rw[gM (by simp[hp])];rfl
    clear hp;go_wp2_with fail;refine(d9 w.heap.size w.heap.size _ 92 _ m (by omega) (by omega)).mono ?_;rintro e z ⟨rfl,c,b⟩;have g:=ae c;have j:=ae (n.trans b);have l:=lj f b.size;clear c b;go_wp2_with fail;refine(d9 w.heap.size w.heap.size _ _ _ g (by simp;omega) (by omega)).mono ?_;rintro e ZN ⟨rfl,u,h⟩;have D:=ae u;have G:=ae (j.trans h);have E:=lj l h.size;clear u h;go_wp2_with fail;refine(d9 w.heap.size w.heap.size _ _ _ D (by simp;omega) (by omega)).mono ?_;rintro e w4 ⟨rfl,t,p⟩;have y:=ae t;have C:=ae (G.trans p);have ZP:=lj E p.size;clear t p;go_wp2;exact⟨⟨k+1,by omega,by go_num,by rw[r.out,x.out];simpa[dU,Hl] using y.out,C,ZP⟩,by simp[intOf];omega⟩
  ·have e:k=s.size:=by omega
   subst e;have r:Hid (aF s.data.toList=qTo s.data.toList s.size++[34]):=by
    show aF s.data.toList=qTo s.data.toList s.size++[34]
    unfold aF;simp
   go_wp2_with fail;refine(d9 w.heap.size w.heap.size _ 34 _ m (by omega) (by omega)).mono ?_;rintro e z ⟨rfl,c,b⟩;have g:=ae c;have j:=ae (n.trans b);have l:=lj f b.size;clear c b;rw[<-r.out] at g;go_wp2_with fail;refine(qj w.heap.size w.heap.size _ _ g (by omega)).mono ?_;rintro e ZN ⟨rfl,h⟩;go_wp2;go_ret;exact⟨rfl,j.trans h⟩
theorem tI (k:Nat)(s:ByteArray)(n c:Int)(wd:List UInt8)(w:M)(g:s.size<=2000)(h1:(k:Int)<=15)(hz:1<w.heap.size)(hwd:wd.length<=6)
  (c0:w.cell? (Q 1 (k*5) U)=T (Y ⟨wd.toArray⟩)) (c1:w.cell? (Q 1 (k*5+1) U)=T (J I c)) (hm:0<c) :
  Calls Pg 197 #[.agg #[J I k,Y s,J I n]] w λe b=>e=ZF (Y ⟨(wd++(32::aF s.data.toList)).toArray⟩)/\Below w.heap.size w b:=by
 have h:=ep s.data.toList;have f:s.data.toList.length=s.size:=by simp
 rw[f] at h;clear f;go_enter func197,ntmps197;go_wp2_with (go_at_call 141;refine(ng _ _ g).mono ?_;rintro e b ⟨rfl,i⟩);all_goals go_ret
 refine⟨fO ?_,(br.alloc ly _).trans (i.mono (by simp))⟩;apply N5;simp
theorem uT (k m:Nat)(s:ByteArray)(c:Int)(wd:List UInt8)(w:M)(i:m<=2000)(h1:(k:Int)<=15)(hz:1<w.heap.size)(hwd:wd.length<=6)(h:Pow w)
  (c0:w.cell? (Q 1 (k*5) U)=T (Y ⟨wd.toArray⟩)) (c1:w.cell? (Q 1 (k*5+1) U)=T (J I 0)) (c2:w.cell? (Q 1 (k*5+2) U)=T (J I c)) (hm:0<c) :
  Calls Pg 197 #[.agg #[J I k,Y s,J I m]] w λe b=>e=ZF (Y ⟨(wd++(32::Lib.decDigits m)).toArray⟩)/\Below w.heap.size w b:=by
 have hq:=nN m i;have n:=ae h;clear h;go_enter func197,ntmps197;go_wp2_with fail;have g:=ae (br.alloc (n6 w.heap.size) (N #[J I k,Y s,J I m] 151));refine(Tryz.strconv_Itoa (m:Int) (by omega) (by omega) _ (n.out.aa g.out ly)).mono ?_;rintro e b ⟨rfl,j,os,f⟩;have l:Below (w.heap.size+1) (A w (N #[J I k,Y s,J I m] 151)) b:=by rw[f];exact jp (os:=os) rfl rfl rfl rfl (by simp)
 have o:=ae l;clear l f;rw[Lib.itoa_nonneg];go_wp2;all_goals go_ret
 refine⟨fO ?_,g.out.trans (o.out.mono (by omega))⟩;apply N5;simp
theorem tJ (k:Nat)(s:ByteArray)(n:Int)(wd:List UInt8)(w:M)(h1:(k:Int)<=15)(hz:1<w.heap.size)
  (c0:w.cell? (Q 1 (k*5) U)=T (Y ⟨wd.toArray⟩)) (c1:w.cell? (Q 1 (k*5+1) U)=T (J I 0)) (c2:w.cell? (Q 1 (k*5+2) U)=T (J I 0)) :
  Calls Pg 197 #[.agg #[J I k,Y s,J I n]] w λe b=>e=ZF (Y ⟨wd.toArray⟩)/\Below w.heap.size w b:=by
 go_enter func197,ntmps197;go_wp2;go_ret;exact⟨rfl,br.alloc ly _⟩
theorem yd:∀k:Nat,k<16->(word (k:Int)).length<=6:=by intro k hk;rcases(show k=0∨k=1∨k=2∨k=3∨k=4∨k=5∨k=6∨k=7∨k=8∨k=9∨k=10∨k=11∨k=12∨k=13∨k=14∨k=15 by omega) with rfl|rfl|rfl|rfl|rfl|rfl|rfl|rfl|rfl|rfl|rfl|rfl|rfl|rfl|rfl|rfl;all_goals decide
theorem uU (op:Int)(s:ByteArray)(n:Int)(w:M)(h:aH op s.size n=ZG)(c:Tab w)(r:TabW w)(q:Pow w):Calls Pg 197 #[.agg #[J I op,Y s,J I n]] w λe l=>e=ZF (Y ⟨(aR op s.data.toList n).toArray⟩)/\Below w.heap.size w l:=by
 obtain⟨k,rfl⟩:∃k:Nat,op=k:=by
  rcases iR h with ⟨rfl,_⟩|⟨b,_⟩|⟨b,_⟩
  {exact⟨1,rfl⟩};{exact⟨op.toNat,by omega⟩};{exact⟨op.toNat,by omega⟩}
 have f:k<16:=by unfold aH at h;rw[AI] at h;omega
 have c0:=r k f;obtain⟨c1,c2⟩:=c.2 k f;rcases iR h with ⟨j,p,rfl⟩|⟨b,rfl,m,rfl,o⟩|⟨b,rfl,rfl⟩
 ·have e:aR k s.data.toList 0=word k++(32::aF s.data.toList):=by rw[j];rfl
  rw[e];exact tI k s 0 _ _ w p (by omega) c.1 (yd k f) c0 c1 (by rw[j];decide)
 ·have e:aR k [] m=word k++(32::Lib.decDigits m):=by
   rcases b with h|h|h|h|h<;>rw[h]<;>simp[aR,kind]
  have i:aE k=0:=by rcases b with h|h|h|h|h<;>rw[h]<;>decide
  have g:0<bO k:=by rcases b with h|h|h|h|h<;>rw[h]<;>decide
  rw[show(⟨#[]⟩:ByteArray).data.toList=[] from rfl,e];rw[i] at c1;exact uT k m _ _ _ w o (by omega) c.1 (yd k f) q c0 c1 c2 g
 ·have e:aR k [] 0=word k:=by
   rcases b with h|h|h|h|h|h|h|h|h<;>rw[h]<;>simp[aR,kind]
  have i:aE k=0:=by rcases b with h|h|h|h|h|h|h|h|h<;>rw[h]<;>decide
  have g:bO k=0:=by rcases b with h|h|h|h|h|h|h|h|h<;>rw[h]<;>decide
  rw[show(⟨#[]⟩:ByteArray).data.toList=[] from rfl,e];rw[i] at c1;rw[g] at c2;exact tJ k _ 0 _ w (by omega) c.1 c0 c1 c2
theorem J5:liesAt Pg Pg.depth 129 (2 / Pg.cellsOf 129) 0 127 1=ZG:=by kernel_rfl
def Bw (w:M)(B b:Nat)(l:List UInt8):Prop:=Lib.IsBuilder 129 5 B b (Lib.byteCells l) w
theorem Bw.lt (h:Bw w B b l):B<=b/\b<w.heap.size:=by
 rcases h with h|h;{exact⟨h.1,h.lt⟩};{exact⟨h.1,h.lt⟩}
theorem jU (h:Lib.BuilderAt 129 5 B b p i w)(hb:Below C w c)(o:w.heap.size<=C):Lib.BuilderAt 129 5 B b p i c:=by
 have hl:=h.lt;obtain⟨t,v,s,m,j⟩:=h;refine⟨t,v,by rw[hb.block b (by omega)];exact s,⟨m.1,?_⟩,j⟩;rcases m.2 with hn|⟨g,cap,f,n,q,l,r⟩
 {exact .inl hn};{exact .inr ⟨g,cap,f,n,q,by rw[hb.block g (lj (eT.1 l).1 o)];exact l,r⟩}
theorem Bw.aa (h:Bw w B b l)(hb:Below C w c)(f:w.heap.size<=C):Bw c B b l :=
 h.elim (λx=>.inl (jU x hb f)) (λx=>.inr (jU x hb f))
theorem Bw.new (w:M):Bw (A w (N #[.pointer U,Z U 0 0] 129)) w.heap.size w.heap.size []:=by refine .inl ⟨n6 _,Z U 0 0,?_,A9 _ _ _ _,by simp[Value.ownBlock]⟩;show(w.heap.push _)[w.heap.size]?=_;simp
abbrev Kp (b:Nat)(w c:M):Prop:=Lib.OthersKept 5 (T b) w c
theorem bM (h:Below w.heap.size w c):Kp b w c:=by intro k o f _ _;rw[h.block k (eT.1 f).1];exact f
theorem uV{v:ZC}(h:Bs w B v l):∀g,v.ownBlock=T g->∃c fz,w.heap[g]?=T (N c 5 fz):=by
 intro g b;rcases h.2 with ⟨rfl,_⟩|⟨g',cap,f,rfl,_,i,_⟩
 {simp[Value.ownBlock] at b};{simp[Value.ownBlock] at b;subst b;exact⟨f,_,i⟩}
theorem pi (b:Nat)(w:M)(h0:w.cell? (Q b 0 U)=T (.pointer U))(c:w.shape? b=T (129,2))(hfz:w.frozen? (Q b 0 U)=ZA):Calls Pg 195 #[.pointer (T (Q b 0 U))] w λe h=>e=ZF (.tuple #[])/\h=w.setCell (Q b 0 U) (.pointer (T (Q b 0 U))):=by obtain⟨j,f,g⟩:=OB.1 tX;go_enter U7,XM;go_wp2;rw[Lib.run_to_unsafe w (Q b 0 U) QB RZ f (by rw[g];decide) c (Nat.zero_lt_succ 1)];simp only[Result.andThen];rw[TJ];go_wp2;rw[run_callFunc_extern func248 (by kernel_rfl) (by kernel_rfl) (by kernel_rfl) (e:=Extern.AbiNoEscape.same) (by kernel_rfl)];rw[Lib.run_noEscape];simp only[Result.andThen];rw[TJ];go_wp2;rw[Lib.run_from_unsafe w (Q b 0 U) RZ QB f c J5];simp only[Result.andThen];rw[TJ];go_wp2;go_end0;exact⟨rfl,rfl⟩
theorem qk (b:Nat)(w:M)(h0:w.cell? (Q b 0 U)=T (.pointer (T (Q b 0 U)))):Calls Pg 195 #[.pointer (T (Q b 0 U))] w λe c=>e=ZF (.tuple #[])/\c=w:=by obtain⟨j,f,_⟩:=OB.1 tX;go_enter U7,XM;go_wp2;rw[Lib.run_neq_ptr_same w _ QB f];go_wp2;go_end0;exact⟨rfl,rfl⟩
theorem lv (B b:Nat)(f:List ZC)(w:M)(h:Lib.IsBuilder 129 5 B b f w):Calls Pg 195 #[.pointer (T (Q b 0 U))] w λe c=>e=ZF (.tuple #[])/\(Lib.BuilderAt 129 5 B b (.pointer (T (Q b 0 U))) f c/\Below B w c/\Kp b w c):=by
 rcases h with h|h;{refine(pi b w h.cell0 h.shape h.frozen0).mono ?_;rintro e c ⟨rfl,rfl⟩;exact⟨rfl,h.used _,(dB B w).setCell (p:=(Q b 0 U)) h.1 _,(RP _ _ w).setCell (Q b 0 U) rfl _⟩};{refine(qk b w h.cell0).mono ?_;rintro e c ⟨rfl,rfl⟩;exact⟨rfl,h,dB B _,RP _ _ _⟩}
theorem rj (B b:Nat)(l:List UInt8)(c:UInt8)(w:M)(h:Bw w B b l)(hlen:l.length+1<=140737488355328)(hBw:B<=w.heap.size):Calls Pg 140 #[.pointer (T (Q b 0 U)),J .u8 c.toNat] w λe z=>e=ZF .nilIface/\Bw z B b (l++[c])/\Below B w z/\Kp b w z:=by
 go_enter func140,ntmps140;go_wp2_with (go_at_call 195;refine(lv B b _ _ h).mono ?_);rintro e j ⟨rfl,h1,r,x⟩;have ZP:=ae x;clear x;have E:=h1.lt;obtain⟨G,v,n,i,u⟩:=h1;have c0:j.cell? (Q b 0 U)=T (.pointer (T (Q b 0 U))):=by rw[HU n];rfl
 have c1:j.cell? (Q b 1 U)=T v:=by rw[HU n];rfl
 have m:Bs j B v l:=by rw[OR] at i;exact i
 have y:=ae m;have K:=ae n;have H:=ae u;have F:=ae r;have hs1:w.heap.size<=j.heap.size:=r.size;clear i m n u r;go_wp2_with (at_builtin;refine lm rfl _ _ rfl B _ l rfl ?h1 (Q j.heap.size 0 U) 1 [c] rfl ?h2 ?h3 ?h4 ?_);case h1=>exact y.aa (br.alloc ly _) ly
 case h2=>exact gD (by simp)
 case h3=>simp only[eL,nX];omega
 case h4=>simp;omega
 intro v' s q o;obtain⟨g,cap,rfl,hg3,hg4⟩:=q.aq (by simp);have f:s.heap[b]?=T (N #[.pointer (T (Q b 0 U)),v] 129 (0,0)):=by rw[o.block b (by simp;omega) (λe=>H.out e.symm),XH j _ b E];exact K
 have d0:s.cell? (Q b 0 U)=T (.pointer (T (Q b 0 U))):=by rw[HU f];rfl
 have d1:s.cell? (Q b 1 U)=T v:=by rw[HU f];rfl
 have f1:s.frozen? (Q b 1 U)=ZA:=OP f 1;have D:=ae f;have ZR:=ae q;have t:=ae o;clear f q o;go_wp2;go_ret;refine⟨rfl,.inr (Lib.BuilderAt.put (T:=129) (e:=5) G D (bs':=Lib.byteCells (l++[c])) ?_ (by decide)),?_,?_⟩;{have:=ZR.out;unfold Bs at this;rw[OR];simpa using this};{exact((F.alloc (by omega) _).grown t (by simp;omega) (λk L=>(RV y k L).1)).setCell (p:=(Q b 1 U)) G _}
 ·exact((ZP.alloc _).grown t (λg ZN=>by
   obtain⟨c,fz,C⟩:=uV y g ZN
   exact⟨c,fz,(XH j _ g (eT.1 C).1).trans C⟩)).setCell (Q b 1 U) rfl _
theorem pj (B b:Nat)(l q:List UInt8)(w:M)(h:Bw w B b l)(hlen:l.length+q.length<=140737488355328)(hBw:B<=w.heap.size):Calls Pg 138 #[.pointer (T (Q b 0 U)),Y ⟨q.toArray⟩] w λe ZR=>(∃x,e=ZF x)/\Bw ZR B b (l++q)/\Below B w ZR/\Kp b w ZR:=by
 go_enter func138,ntmps138;go_wp2_with (go_at_call 195;refine(lv B b _ _ h).mono ?_);rintro e s ⟨rfl,h1,o,y⟩;have L:=ae y;clear y;have G:=h1.lt;obtain⟨ZN,v,j,f,u⟩:=h1;have c0:s.cell? (Q b 0 U)=T (.pointer (T (Q b 0 U))):=by rw[HU j];rfl
 have c1:s.cell? (Q b 1 U)=T v:=by rw[HU j];rfl
 have i:Bs s B v l:=by rw[OR] at f;exact f
 have z:=ae i;have ZO:=ae j;have K:=ae u;have H:=ae o;have hs1:w.heap.size<=s.heap.size:=o.size;clear f i j u o;go_wp2_with (at_builtin;refine yS rfl _ _ rfl B _ l rfl ?h1 q rfl ?h3 ?h4 ?_);case h1=>exact z
 case h3=>omega
 case h4=>omega
 intro P r n m;have c:r.heap[b]?=T (N #[.pointer (T (Q b 0 U)),v] 129 (0,0)):=by rw[m.block b G (λe=>K.out e.symm)];exact ZO
 have d0:r.cell? (Q b 0 U)=T (.pointer (T (Q b 0 U))):=by rw[HU c];rfl
 have d1:r.cell? (Q b 1 U)=T v:=by rw[HU c];rfl
 have f1:r.frozen? (Q b 1 U)=ZA:=OP c 1;obtain⟨D,ZP,cap,rfl⟩:∃D ZP cap,P=Z D ZP cap:=by
  rcases n.2 with ⟨C,_⟩|⟨g,cap,cur,C,_⟩
  {exact⟨_,_,_,C⟩};{exact⟨_,_,_,C⟩}
 have F:=ae c;have E:=ae n;have t:=ae m;clear c n m;go_wp2;go_ret2;refine⟨⟨_,rfl⟩,.inr (Lib.BuilderAt.put (T:=129) (e:=5) ZN F (bs':=Lib.byteCells (l++q)) ?_ (by decide)),?_,?_⟩;{have:=E.out;unfold Bs at this;rw[OR];exact this};{exact(H.grown t (by omega) (λk O=>(RV z k O).1)).setCell (p:=(Q b 1 U)) ZN _};{exact(L.grown t (λg ZQ=>uV z g ZQ)).setCell (Q b 1 U) rfl _}
theorem Bw.buf (h:Bw w B b l):∃p i cap,w.heap[b]?=T (N #[p,Z i l.length cap] 129 (0,0)):=by
 have c:∀p,Lib.BuilderAt 129 5 B b p (Lib.byteCells l) w->∃p i cap,w.heap[b]?=T (N #[p,Z i l.length cap] 129 (0,0)):=by
  intro p n;obtain⟨_,v,m,j,_⟩:=n;rw[OR] at j;rcases j.2 with ⟨f,hz⟩|⟨g,cap,cur,f,_⟩
  {subst f;rw[hz];exact⟨_,_,_,m⟩};{subst f;exact⟨_,_,_,m⟩}
 exact h.elim (c _) (c _)
theorem EI (B b:Nat)(l:List UInt8)(w:M)(h:Bw w B b l):Calls Pg 81 #[.pointer (T (Q b 0 U))] w λe f=>e=ZF (J I l.length)/\f=w:=by
 obtain⟨p,g,cap,c⟩:=h.buf;have c1:w.cell? (Q b 1 U)=T (Z g l.length cap):=by rw[HU c];rfl
 clear c h;go_enter func81,ntmps81;go_wp2;go_ret;exact⟨rfl,rfl⟩
theorem cellsByte:Pg.cellsOf 5=1:=by kernel_rfl
theorem xf (B b:Nat)(l:List UInt8)(w:M)(h:Bw w B b l)(t:l≠[]):Calls Pg 82 #[.pointer (T (Q b 0 U))] w λe F=>e=ZF (Y ⟨l.toArray⟩)/\Below B w F:=by
 obtain⟨p,G⟩:∃p,Lib.BuilderAt 129 5 B b p (Lib.byteCells l) w:=h.elim (λx=>⟨_,x⟩) (λx=>⟨_,x⟩);obtain⟨hB,v,s,f,z⟩:=G;have ZR:l.length≠0:=by simpa using t
 rw[OR] at f;obtain⟨g,cap,c,rfl,D,ZP,E,o,y,m⟩:∃g cap c,v=Z (T (Q g 0 U)) l.length cap/\B<=g/\w.heap[g]?=T (N c 5)/\l.length<=cap/\cap<=maxLen/\c.size=cap*1/\c.toList.take (l.length*1)=Lib.byteCells l:=by
  rcases f.2 with ⟨_,hz⟩|⟨g,cap,c,H,r⟩
  {exact absurd hz ZR};{exact⟨g,cap,c,H,r⟩}
 have c1:w.drew.cell? (Q b 1 U)=T (Z (T (Q g 0 U)) l.length cap):=by have:w.drew.heap[b]?=T (N #[p,Z (T (Q g 0 U)) l.length cap] 129 (0,0)):=s;rw[HU this];rfl
 have hSD:(Builtin.unsafeSliceData_ #[22] 215 #[Z (T (Q g 0 U)) l.length cap]).run Pg w.drew=.ok (.pointer (T (Q g 0 U))) w.drew :=
  Lib.run_unsafeSliceData_row _ _ _ _ _ _ (by omega)
 have hUS:(Builtin.unsafeString_ #[215,3] 9 #[.pointer (T (Q g 0 U)),J I l.length]).run Pg w.drew=.ok (Y ⟨l.toArray⟩) (w.drew.freeze (Q g 0 U) l.length):=by
  refine Lib.run_unsafeString_row w.drew 215 3 9 5 TD cellsByte g c.size (by have C:w.drew.heap[g]?=T (N c 5):=ZP;simp[World.shape?,C]) l t (by omega) (by unfold maxLen at o;omega) ?_;intro j x i;have u:j<l.length:=by
   rcases PJ j l.length with q|q;{exact q};{rw[OH q] at i;cases i}
  have ZN:=Bs.cell (w:=w) (base:=B) (g:=g) (cap:=cap) (n:=l.length) (l:=l) f j u;rw[gq u] at i;obtain rfl:=BC i;exact ZN
 have mixed:Pg.follows .mixedOrders=ZG:=by kernel_rfl
 clear f z m y o E;go_enter func82,ntmps82;go_wp2;go_region_o;all_goals (go_wp2;go_ret;exact⟨rfl,Lib.below_freeze (SW (dB B w)) (p:=(Q g 0 U)) D _⟩)
abbrev joined (b:List ByteArray):List UInt8:=Lib.join (b.map (·.data.toList)) [32]
theorem mg (m:M)(b:Nat)(l:List UInt8)(g c:Nat)(f:List ByteArray)(w:M)(hb:Below m.heap.size m w)(h:Bw w m.heap.size b l)(G:g<w.heap.size)(n:∀(j:Nat) x,f[j]?=T x->w.cell? (Q g (0+j) U)=T (Y x))(C:f.length<=c)(hn:f.length<=10)(ZR:l.length+(joined f).length+1<=140737488355328):Calls Pg 79 #[.pointer (T (Q b 0 U)),Z (T (Q g 0 U)) f.length c] w λe o=>e=ZF (.tuple #[])/\Bw o m.heap.size b (l++joined f++[10])/\Below m.heap.size m o/\Kp b w o:=by
 have ZP:=ae (λW (K:Below w.heap.size w W)=>Tryz.strings_Join g 0 c f ⟨#[32]⟩ W (λj x P=>(K.cell (p:=(Q g (0+j) U)) G).trans (n j x P)) (lj G K.size) (by omega) C (by show(joined f).length<=_;omega));have H:=ae h;have R:=ae hb;have F:=hb.size;have hlt:=h.lt;clear n h hb;obtain⟨ZL,B⟩:∃ZL,ZL=joined f:=⟨_,rfl⟩
 have E:Hid (∀W,Below w.heap.size w W->Calls Pg 139 #[Z (T (Q g 0 U)) f.length c,Y ⟨#[32]⟩] W λe o=>e=ZF (Y ⟨ZL.toArray⟩)/\Below W.heap.size W o):=by rw[B];exact ZP
 rw[<-B] at ZR ⊢;clear B ZP;go_enter func79,ntmps79;go_wp2_with fail
 go_region_with (first
  |(go_at_call 139;refine(E _ ?_).mono ?_;(first|exact dB _ _|exact br.drew);rintro e ZN ⟨rfl,i⟩;have q:Hid (Below w.heap.size w ZN):=⟨i.os,i.tape,i.output,i.size,i.block⟩;have ZO:=ae (H.aa q ly);have ZJ:Hid (Kp b w ZN):=bM q.out;clear i)
  |(go_at_call 138;refine(pj m.heap.size b l ZL _ ZO (by omega) (p7 F q.size)).mono ?_;rintro e w2 ⟨⟨x,rfl⟩,z,y,u⟩;have ZQ:=ae z;have L:=ae (ZJ.trans u);have D:=ae ((R.trans (q.mono F)).trans y);clear z y u))
 all_goals
  go_simp;go_wp2_with fail;refine(rj m.heap.size b _ 10 _ ZQ (by simp only[cM];omega) D.size).mono ?_;rintro e w3 ⟨rfl,t,s,r⟩;have O:=ae (L.trans r);have S:=ae t;have ZM:=ae (D.trans s);clear t s r;go_wp2;go_end0;exact⟨rfl,S,ZM,O⟩
theorem lw (a b:ByteArray):joined [a,b]=a.data.toList++[32]++b.data.toList:=by simp[joined,Lib.join]
theorem jH (a b c:ByteArray):joined [a,b,c]=a.data.toList++[32]++b.data.toList++[32]++c.data.toList:=by simp[joined,Lib.join]
theorem ye (a b c d:ByteArray):joined [a,b,c,d]=a.data.toList++[32]++b.data.toList++[32]++c.data.toList++[32]++d.data.toList:=by simp[joined,Lib.join]
theorem Ki (w:M)(a b c:ByteArray)(t:ZH):∀(j:Nat) x,([a,b,c]:List ByteArray)[j]?=T x->(A w (N #[Y a,Y b,Y c] t)).cell? (Q w.heap.size (0+j) U)=T (Y x):=by
 intro j x f;rcases j with _|_|_|j;{simp at f;subst f;simp};{simp at f;subst f;simp};{simp at f;subst f;simp};{simp at f}
theorem Kj (w:M)(a b:ByteArray)(t:ZH):∀(j:Nat) x,([a,b]:List ByteArray)[j]?=T x->(A w (N #[Y a,Y b] t)).cell? (Q w.heap.size (0+j) U)=T (Y x):=by
 intro j x c;rcases j with _|_|j;{simp at c;subst c;simp};{simp at c;subst c;simp};{simp at c}
theorem Kk (w:M)(a b c d:ByteArray)(t:ZH):∀(j:Nat) x,([a,b,c,d]:List ByteArray)[j]?=T x->(A w (N #[Y a,Y b,Y c,Y d] t)).cell? (Q w.heap.size (0+j) U)=T (Y x):=by
 intro j x f;rcases j with _|_|_|_|j;{simp at f;subst f;simp};{simp at f;subst f;simp};{simp at f;subst f;simp};{simp at f;subst f;simp};{simp at f}
theorem Kl (w:M)(a:ByteArray)(t:ZH):∀(j:Nat) x,([a]:List ByteArray)[j]?=T x->(A w (N #[Y a] t)).cell? (Q w.heap.size (0+j) U)=T (Y x):=by
 intro j x b;rcases j with _|j;{simp at b;subst b;simp};{simp at b}
theorem J6 (c W f:M)(b:Nat)(l:List UInt8)(x:ByteArray)(t:ZH)(j:Below c.heap.size c W)(i:Below W.heap.size W f)(m:Bw W c.heap.size b l)(h:l.length+(joined [x]).length+1<=140737488355328):Calls Pg 79 #[.pointer (T (Q b 0 U)),Z (T (Q f.heap.size 0 U)) 1 1] (A f (N #[Y x] t)) λe g=>e=ZF (.tuple #[])/\Bw g c.heap.size b (l++joined [x]++[10])/\Below c.heap.size c g/\Kp b W g:=by have ZR:=i.alloc i.size (N #[Y x] t);exact(mg c b l f.heap.size 1 [x] _ (j.trans (ZR.mono j.size)) (m.aa ZR ly) (by simp) (Kl f x t) (by simp) (by simp) h).mono λe g ⟨h1,h2,h3,h4⟩=>⟨h1,h2,h3,(bM ZR).trans h4⟩
theorem zJ (c W f:M)(b:Nat)(l:List UInt8)(x y:ByteArray)(t:ZH)(j:Below c.heap.size c W)(i:Below W.heap.size W f)(m:Bw W c.heap.size b l)(h:l.length+(joined [x,y]).length+1<=140737488355328):Calls Pg 79 #[.pointer (T (Q b 0 U)),Z (T (Q f.heap.size 0 U)) 2 2] (A f (N #[Y x,Y y] t)) λe g=>e=ZF (.tuple #[])/\Bw g c.heap.size b (l++joined [x,y]++[10])/\Below c.heap.size c g/\Kp b W g:=by have ZR:=i.alloc i.size (N #[Y x,Y y] t);exact(mg c b l f.heap.size 2 [x,y] _ (j.trans (ZR.mono j.size)) (m.aa ZR ly) (by simp) (Kj f x y t) (by simp) (by simp) h).mono λe g ⟨h1,h2,h3,h4⟩=>⟨h1,h2,h3,(bM ZR).trans h4⟩
theorem zK (c W f:M)(b:Nat)(l:List UInt8)(x y z:ByteArray)(t:ZH)(j:Below c.heap.size c W)(i:Below W.heap.size W f)(m:Bw W c.heap.size b l)(h:l.length+(joined [x,y,z]).length+1<=140737488355328):Calls Pg 79 #[.pointer (T (Q b 0 U)),Z (T (Q f.heap.size 0 U)) 3 3] (A f (N #[Y x,Y y,Y z] t)) λe g=>e=ZF (.tuple #[])/\Bw g c.heap.size b (l++joined [x,y,z]++[10])/\Below c.heap.size c g/\Kp b W g:=by have ZR:=i.alloc i.size (N #[Y x,Y y,Y z] t);exact(mg c b l f.heap.size 3 [x,y,z] _ (j.trans (ZR.mono j.size)) (m.aa ZR ly) (by simp) (Ki f x y z t) (by simp) (by simp) h).mono λe g ⟨h1,h2,h3,h4⟩=>⟨h1,h2,h3,(bM ZR).trans h4⟩
theorem J7 (c W f:M)(b:Nat)(l:List UInt8)(x y z u:ByteArray)(t:ZH)(j:Below c.heap.size c W)(i:Below W.heap.size W f)(m:Bw W c.heap.size b l)(h:l.length+(joined [x,y,z,u]).length+1<=140737488355328):Calls Pg 79 #[.pointer (T (Q b 0 U)),Z (T (Q f.heap.size 0 U)) 4 4] (A f (N #[Y x,Y y,Y z,Y u] t)) λe g=>e=ZF (.tuple #[])/\Bw g c.heap.size b (l++joined [x,y,z,u]++[10])/\Below c.heap.size c g/\Kp b W g:=by have ZR:=i.alloc i.size (N #[Y x,Y y,Y z,Y u] t);exact(mg c b l f.heap.size 4 [x,y,z,u] _ (j.trans (ZR.mono j.size)) (m.aa ZR ly) (by simp) (Kk f x y z u t) (by simp) (by simp) h).mono λe g ⟨h1,h2,h3,h4⟩=>⟨h1,h2,h3,(bM ZR).trans h4⟩
theorem yg (t:Bool)(w:M):Calls Pg 249 #[ZD t] w λe b=>e=ZF (Y ⟨#[if t=ZG then 49 else 48]⟩)/\b=w:=by
 cases t
 all_goals
  go_enter func249,ntmps249;go_wp2;go_ret;exact⟨rfl,rfl⟩
theorem EJ (f:M)(b:Nat)(l:List UInt8)(x:Link)(w:M)(hb:Below f.heap.size f w)(h:Bw w f.heap.size b l)(K:Pow f)(hn:x.e.size<=60)(ZP:0<=x.L)(h1:x.L<=400)(hlen:l.length+200<=140737488355328):Calls Pg 198 #[.pointer (T (Q b 0 U)),.agg #[Y x.e,ZD x.ask,ZD x.has,J I x.L]] w λe F=>e=ZF (.tuple #[])/\Bw F f.heap.size b (l++dH x++[10])/\Below f.heap.size f F/\Kp b w F:=by
 have H:=ae h;have G:=ae hb;have ZQ:=ae K;have ZM:=hb.size;clear h hb K;obtain⟨m,y⟩:∃m:Nat,x.L=(m:Int):=⟨x.L.toNat,by omega⟩
 have hm4:m<=400:=by omega
 have hd:=gU m (by omega);have hq:=cF x.e;have s:=ae ((q9 w).alloc ly (N #[Y x.e,ZD x.ask,ZD x.has,J I x.L] 91));have r:=ae (H.aa s ly);have g:=ae (G.trans (s.mono ZM));have o:Hid (Kp b w (A w (N #[Y x.e,ZD x.ask,ZD x.has,J I x.L] 91))):=bM s;have c0:(A w (N #[Y x.e,ZD x.ask,ZD x.has,J I x.L] 91)).cell? (Q w.heap.size 0 U)=T (Y x.e):=by simp
 have c1:(A w (N #[Y x.e,ZD x.ask,ZD x.has,J I x.L] 91)).cell? (Q w.heap.size 1 U)=T (ZD x.ask):=by simp
 have c2:(A w (N #[Y x.e,ZD x.ask,ZD x.has,J I x.L] 91)).cell? (Q w.heap.size 2 U)=T (ZD x.has):=by simp
 have c3:(A w (N #[Y x.e,ZD x.ask,ZD x.has,J I x.L] 91)).cell? (Q w.heap.size 3 U)=T (J I m):=by rw[<-y];simp
 have hz:w.heap.size<(A w (N #[Y x.e,ZD x.ask,ZD x.has,J I x.L] 91)).heap.size:=by simp
 cases hk:x.ask with
 |true =>
  have z:Hid (dH x=joined [⟨#[97,115,107]⟩,x.e,⟨(Lib.decDigits m).toArray⟩]):=by show _=_;rw[jH];unfold dH;rw[p6 hk,y];simp
  have ZN:(joined [⟨#[97,115,107]⟩,x.e,⟨(Lib.decDigits m).toArray⟩]).length<=100:=by rw[jH];simp only[cM,eL,nX];omega
  rw[z.out];rw[hk] at c0 c1 c2 c3 hz s r g o;rw[y];rw[y] at c0 c1 c2 c3 hz r g o;clear y ZP h1 z c2 s H G;go_enter func198,ntmps198;go_wp2_with fail;generalize A w (N #[Y x.e,ZD ZG,ZD x.has,J I (m:Int)] 91)=W at c0 c1 c3 hz r g o ⊢;generalize w.heap.size=ZR at c0 c1 c3 hz ⊢;have ZO:=ae (λV (R:Below W.heap.size W V)=>pd m V (by omega) ((ZQ.aa g ly).aa R ly))
  go_region_with (first
   |(go_at_call 55;refine(ZO _ ?_).mono ?_;(first|exact dB _ _|exact br.drew);rintro e t ⟨rfl,c⟩;have q:Hid (Below W.heap.size W t):=⟨c.os,c.tape,c.output,c.size,c.block⟩;have P:=(q.cell (p:=(Q ZR 0 U)) hz).trans c0;have L:ZR<t.heap.size:=lj hz q.size;clear c)
   |(go_at_call 79;refine(zK f W t b l _ _ _ _ g q r (by omega)).mono ?_;rintro e O ⟨rfl,n,j,i⟩;have E:=ae n;have C:=ae j;have D:=ae (o.trans i);clear n j i))
  all_goals
   go_simp;go_wp2
   (try simp only[Exit.inBlock,Exit.then])
   refine bp (results_none rfl _ _ _) rfl ?_;exact⟨rfl,E,C,D⟩
 |false =>
  obtain⟨tb,u⟩:∃tb:ByteArray,tb=⟨#[if x.has=ZG then 49 else 48]⟩:=⟨_,rfl⟩
  have TR:=ae (λV=>by have h:=yg x.has V;rw[<-u] at h;exact h);have htl:tb.data.toList.length=1:=by rw[u];rfl
  have z:Hid (dH x=joined [⟨#[104,97,115]⟩,x.e,tb]):=by show _=_;rw[jH];unfold dH;rw[gM (by rw[hk];simp),u];cases x.has<;>simp
  have ZN:(joined [⟨#[104,97,115]⟩,x.e,tb]).length<=100:=by rw[jH];simp only[cM,eL,nX];omega
  rw[z.out];rw[hk] at c0 c1 c2 c3 hz s r g o;clear y ZP h1 z c3 s H G u;go_enter func198,ntmps198;go_wp2_with fail;generalize A w (N #[Y x.e,ZD ZA,ZD x.has,J I x.L] 91)=W at c0 c1 c2 hz r g o ⊢;generalize w.heap.size=ZR at c0 c1 c2 hz ⊢
  go_region_with (first
   |(go_at_call 249;refine(TR _).mono ?_;rintro e t ⟨rfl,B⟩;have q:Hid (Below W.heap.size W t):=(by rw[B];first|exact dB _ _|exact br.drew);have P:=(q.cell (p:=(Q ZR 0 U)) hz).trans c0;have L:ZR<t.heap.size:=lj hz q.size;clear B)
   |(go_at_call 79;refine(zK f W t b l _ _ _ _ g q r (by omega)).mono ?_;rintro e O ⟨rfl,n,j,i⟩;have E:=ae n;have C:=ae j;have D:=ae (o.trans i);clear n j i))
  all_goals
   go_simp;go_wp2;go_end0;exact⟨rfl,E,C,D⟩
