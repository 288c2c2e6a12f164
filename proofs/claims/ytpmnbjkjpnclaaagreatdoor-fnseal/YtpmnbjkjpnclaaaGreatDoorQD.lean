import Derived.Deep.LoopGhost
import Derived.Test.YtpmnbjkjpnclaaaGreatDoorRQ
import Derived.Shelf.Strings.SlTrimAscii
import Derived.Lib.OthersKept
import Derived.Lib.TrimU
import Derived.Laws.Runes
import Derived.WalkMore
import Derived.Test.YtpmnbjkjpnclaaaGreatDoorSR
import Derived.Lib.Builder
set_option maxRecDepth 100000
set_option maxHeartbeats 4000000
open Go renaming Addr.mk->Q,Value.string->U,Value.int->N,Value.agg->ZH,Obj.cells->J,IntKind.i64->I,World->M,Value->ZC,Ending.returned->ZF,World.heap->A,Proofs.Tryz.prog->Pg
open Option renaming none->Y,some->T
open Bool renaming false->ZA,true->ZG
open Array renaming size->Z
namespace Go.Proofs.YtpmnbjkjpnclaaaGreatDoor.Vp
open Tryz RowKit
variable {w c:M}{B b n C place steps looks:Nat}{l u r:List UInt8}{y:Nat->aI}{f:Nat->Ins}{s:List ByteArray}
def Pow (w:M):Prop:=Lib.TabIs Pg w "internal/strconv.uint64pow10" .u64 Lib.pow10Tab
theorem gPow:Pg.globalNamed "internal/strconv.uint64pow10"=T 2:=by kernel_rfl
theorem Pow.aa{b:M}(h:Pow w)(hb:Below B w b)(c:Z (A w)<=B):Pow b:=Joins.tab_stays gPow h hb c
theorem Pow.low{b:M}(h:Pow w)(hb:Below B w b)(c:2<B):Pow b:=var?_below hb gPow c h
theorem jq{W b:M}{os:Array Obj}(h:b.heap=W.heap++os)(h1:b.os=W.os)(h2:b.tape=W.tape)(h3:b.output=W.output)(hB:B<=Z (A W)):Below B W b :=
 ⟨h1,h2,h3,by rw[h,Array.size_append];omega,λi hi=>by rw[h,UB (by omega)]⟩
theorem pk (m:Nat)(w:M)(hm:(m:Int)<=9223372036854775807)(c:Pow w):Calls Pg 55 #[N I m] w λe b=>e=ZF (U ⟨(Lib.decDigits m).toArray⟩)/\Below (Z (A w)) w b:=by refine(Tryz.strconv_Itoa (m:Int) (by omega) (by omega) _ c).mono ?_;rintro e b ⟨rfl,j,os,f⟩;rw[Lib.itoa_nonneg];refine⟨rfl,?_⟩;rw[f];exact jq (os:=os) rfl rfl rfl rfl (by simp)
def fh (n:Nat):ByteArray:=⟨(Lib.decDigits n).toArray⟩
def ik (b:Bool):ByteArray:=if b then ⟨#[49]⟩ else ⟨#[48]⟩
theorem qn (x:Bool)(w:M):Calls Pg 191 #[.bool x] w λe b=>e=ZF (U (ik x))/\b=w:=by
 cases x
 all_goals
  go_enter func191,ntmps191;go_wp2;go_ret;exact⟨rfl,rfl⟩
theorem t6:(Pg.info? 127).map (·.size)=T 2:=by kernel_rfl
theorem Jn:liesAt Pg Pg.depth 127 (2 / Pg.cellsOf 127) 0 127 1=ZG:=by kernel_rfl
def Bd (w:M)(B b:Nat)(l:List UInt8):Prop:=Lib.IsBuilder 127 5 B b (Lib.byteCells l) w
theorem Bd.lt (h:Bd w B b l):B<=b/\b<Z (A w):=by
 rcases h with h|h;{exact⟨h.1,h.lt⟩};{exact⟨h.1,h.lt⟩}
theorem kC{i:M}{p:ZC}{l:List ZC}(h:Lib.BuilderAt 127 5 B b p l w)(hb:Below C w i)(o:Z (A w)<=C):Lib.BuilderAt 127 5 B b p l i:=by
 have hl:=h.lt;obtain⟨n,v,q,m,j⟩:=h;refine⟨n,v,by rw[hb.block b (by omega)];exact q,⟨m.1,?_⟩,j⟩;rcases m.2 with hn|⟨g,cap,c,s,t,f,r⟩
 {exact .inl hn};{exact .inr ⟨g,cap,c,s,t,by rw[hb.block g (lj (eT.1 f).1 o)];exact f,r⟩}
theorem Bd.aa (h:Bd w B b l)(hb:Below C w c)(f:Z (A w)<=C):Bd c B b l :=
 h.elim (λx=>.inl (kC x hb f)) (λx=>.inr (kC x hb f))
theorem Bd.new (w:M):Bd (w.alloc (J #[.pointer Y,.slice Y 0 0] 127)) (Z (A w)) (Z (A w)) []:=by refine .inl ⟨n6 _,.slice Y 0 0,?_,A9 _ _ _ _,by simp[Value.ownBlock]⟩;show(w.heap.push _)[Z (A w)]?=_;simp
theorem qp (b:Nat)(w:M)(h0:w.cell? (Q b 0 Y)=T (.pointer Y))(c:w.shape? b=T (127,2))(hfz:w.frozen? (Q b 0 Y)=ZA):Calls Pg 195 #[.pointer (T (Q b 0 Y))] w λe h=>e=ZF (.tuple #[])/\h=w.setCell (Q b 0 Y) (.pointer (T (Q b 0 Y))):=by obtain⟨j,g,f⟩:=OQ.1 t6;go_enter VE,XV;go_wp2;rw[Lib.run_to_unsafe w (Q b 0 Y) QI SJ g (by rw[f];decide) c (Nat.zero_lt_succ 1)];simp only[Result.andThen];rw[TQ];go_wp2;rw[run_callFunc_extern func248 (by kernel_rfl) (by kernel_rfl) (by kernel_rfl) (e:=Extern.AbiNoEscape.same) (by kernel_rfl)];rw[Lib.run_noEscape];simp only[Result.andThen];rw[TQ];go_wp2;rw[Lib.run_from_unsafe w (Q b 0 Y) SJ QI g c Jn];simp only[Result.andThen];rw[TQ];go_wp2;go_end0;exact⟨rfl,rfl⟩
theorem rm (b:Nat)(w:M)(h0:w.cell? (Q b 0 Y)=T (.pointer (T (Q b 0 Y)))):Calls Pg 195 #[.pointer (T (Q b 0 Y))] w λe c=>e=ZF (.tuple #[])/\c=w:=by obtain⟨j,f,_⟩:=OQ.1 t6;go_enter VE,XV;go_wp2;rw[Lib.run_neq_ptr_same w _ QI f];go_wp2;go_end0;exact⟨rfl,rfl⟩
theorem tK (B b:Nat)(f:List ZC)(w:M)(h:Lib.IsBuilder 127 5 B b f w):Calls Pg 195 #[.pointer (T (Q b 0 Y))] w λe c=>e=ZF (.tuple #[])/\(Lib.BuilderAt 127 5 B b (.pointer (T (Q b 0 Y))) f c/\Below B w c):=by
 rcases h with h|h;{refine(qp b w h.cell0 h.shape h.frozen0).mono ?_;rintro e c ⟨rfl,rfl⟩;exact⟨rfl,h.used _,(dB B w).setCell (p:=(Q b 0 Y)) h.1 _⟩};{refine(rm b w h.cell0).mono ?_;rintro e c ⟨rfl,rfl⟩;exact⟨rfl,h,dB B _⟩}
theorem ec (B b:Nat)(l:List UInt8)(c:UInt8)(w:M)(h:Bd w B b l)(hlen:l.length+1<=140737488355328)(hBw:B<=Z (A w)):Calls Pg 140 #[.pointer (T (Q b 0 Y)),N .u8 c.toNat] w λe z=>e=ZF .nilIface/\Bd z B b (l++[c])/\Below B w z:=by
 go_enter func140,ntmps140;go_wp2_with (go_at_call 195;refine(tK B b _ _ h).mono ?_);rintro e n ⟨rfl,h1,q⟩;have E:=h1.lt;obtain⟨C,v,m,i,t⟩:=h1;have c0:n.cell? (Q b 0 Y)=T (.pointer (T (Q b 0 Y))):=by rw[HU m];rfl
 have c1:n.cell? (Q b 1 Y)=T v:=by rw[HU m];rfl
 have j:Bs n B v l:=by rw[PE] at i;exact i
 have x:=ae j;have F:=ae m;have H:=ae t;have u:=ae q;have hs1:Z (A w)<=Z (A n):=q.size;clear i j m t q;go_wp2_with (at_builtin;refine lp rfl _ _ rfl B _ l rfl ?h1 (Q (Z (A n)) 0 Y) 1 [c] rfl ?h2 ?h3 ?h4 ?_);case h1=>exact x.out.aa (br.alloc ly _) ly
 case h2=>exact gF (by simp)
 case h3=>simp only[eL,nX];omega
 case h4=>simp;omega
 intro v' s r o;obtain⟨g,cap,rfl,hg3,hg4⟩:=r.av (by simp);have f:s.heap[b]?=T (J #[.pointer (T (Q b 0 Y)),v] 127 (0,0)):=by rw[o.block b (by simp;omega) (λe=>H.out e.symm),XP n _ b E];exact F.out
 have d0:s.cell? (Q b 0 Y)=T (.pointer (T (Q b 0 Y))):=by rw[HU f];rfl
 have d1:s.cell? (Q b 1 Y)=T v:=by rw[HU f];rfl
 have f1:s.frozen? (Q b 1 Y)=ZA:=PC f 1;have ZS:=ae f;have y:=ae r;have D:=ae o;clear f r o;go_wp2;go_ret;refine⟨rfl,.inr (Lib.BuilderAt.put (ZM:=127) (e:=5) C ZS.out (bs':=Lib.byteCells (l++[c])) ?_ (by decide)),?_⟩;{have:=y.out;unfold Bs at this;rw[PE];simpa using this};{exact((u.out.alloc (by omega) _).grown D.out (by simp;omega) (λk G=>(SF x.out k G).1)).setCell (p:=(Q b 1 Y)) C _}
theorem qq (B b:Nat)(l:List UInt8)(w:M)(h:Bd w B b l)(f:B<=Z (A w)):Calls Pg 82 #[.pointer (T (Q b 0 Y))] w λe g=>e=ZF (U ⟨l.toArray⟩)/\Below B w g :=
 (Tryz.Builder_String_any_k B b l w (Lib.IsBuilderF.of h) f).mono λ_ _ ⟨a,_,c,_⟩=>⟨a,c⟩
theorem Ht (j:Nat)(h:j<(⟨#[48,49,50,51,52,53,54,55,56,57,97,98,99,100,101,102]⟩:ByteArray).size):(⟨#[48,49,50,51,52,53,54,55,56,57,97,98,99,100,101,102]⟩:ByteArray)[j]=cO j:=by have h':j<16:=h;rcases(show j=0∨j=1∨j=2∨j=3∨j=4∨j=5∨j=6∨j=7∨j=8∨j=9∨j=10∨j=11∨j=12∨j=13∨j=14∨j=15 by omega) with rfl|rfl|rfl|rfl|rfl|rfl|rfl|rfl|rfl|rfl|rfl|rfl|rfl|rfl|rfl|rfl;all_goals rfl
theorem nr (s:ByteArray)(w:M)(hs:s.size<=2000):Calls Pg 141 #[U s] w λe G=>e=ZF (U ⟨(aF s.data.toList).toArray⟩)/\Below (Z (A w)) w G:=by
 have H:=ae (Bd.new w);go_enter func141,ntmps141;go_wp2_with fail;refine(ec (Z (A w)) (Z (A w)) [] 34 _ H (by simp) (by simp)).mono ?_;rintro e z ⟨rfl,p,n⟩;have m:=ae p;have o:Hid (Below (Z (A w)) w z):=(br.alloc ly _).trans n;have g:Z (A w)+1<=Z (A z):=by have:=n.size;simpa using this
 clear p n H;go_wp2;go_loopw [8] (λi wr=>∃k:Nat,k<=s.size/\i=N I k/\Bd wr (Z (A w)) (Z (A w)) (qTo s.data.toList k)/\Below (Z (A w)) w wr/\(Z (A w))<Z (A wr)) (λi _=>s.size - (intOf i).toNat);case atStart=>exact⟨0,by omega,rfl,m,o,g⟩
 case round =>
  clear g m o;obtain⟨k,hk,rfl,p,n,g⟩:=hrel;have m:=ae p;have o:=ae n;clear n p;have hql:=um s.data.toList k;by_cases B:k<s.size
  ·have r:=ae (uk s k B);have hc:=s[k].toNat_lt;go_wp2_with fail;refine(er s[k] _).mono ?_;rintro e G ⟨rfl,rfl⟩;cases hp:cf s[k] with
   |true =>
    have x:Hid (enc s[k]=[s[k]]):=by
     show enc s[k]=[s[k]]
     unfold enc;rw[p6 hp]
    clear hp;go_wp2_with fail;refine(ec (Z (A w)) (Z (A w)) _ s[k] _ m (by omega) (by omega)).mono ?_;rintro e E ⟨rfl,c,b⟩;have f:=ae c;have j:=ae (o.trans b);have l:=lj g b.size;clear c b;go_wp2;exact⟨⟨k+1,by omega,by go_num,by rw[r.out,x.out];exact f,j,l⟩,by simp[intOf];omega⟩
   |false =>
    have x:Hid (enc s[k]=[92]++dV s[k]):=by show enc s[k]=[92]++dV s[k];unfold enc;rw[gM (by simp[hp])];rfl
    clear hp;go_wp2_with fail;refine(ec (Z (A w)) (Z (A w)) _ 92 _ m (by omega) (by omega)).mono ?_;rintro e E ⟨rfl,c,b⟩;have f:=ae c;have j:=ae (o.trans b);have l:=lj g b.size;clear c b;go_wp2_with fail;refine(ec (Z (A w)) (Z (A w)) _ _ _ f (by simp;omega) (by omega)).mono ?_;rintro e ZP ⟨rfl,u,h⟩;have ZQ:=ae u;have C:=ae (j.trans h);have D:=lj l h.size;clear u h;go_wp2_with fail;refine(ec (Z (A w)) (Z (A w)) _ _ _ ZQ (by simp;omega) (by omega)).mono ?_;rintro e w4 ⟨rfl,t,q⟩;have y:=ae t;have ZS:=ae (C.trans q);have F:=lj D q.size;clear t q;go_wp2;exact⟨⟨k+1,by omega,by go_num,by rw[r.out,x.out];simpa[dV,Ht] using y.out,ZS,F⟩,by simp[intOf];omega⟩
  ·have e:k=s.size:=by omega
   subst e;have r:Hid (aF s.data.toList=qTo s.data.toList s.size++[34]):=by
    show aF s.data.toList=qTo s.data.toList s.size++[34]
    unfold aF;simp
   go_wp2_with fail;refine(ec (Z (A w)) (Z (A w)) _ 34 _ m (by omega) (by omega)).mono ?_;rintro e E ⟨rfl,c,b⟩;have f:=ae c;have j:=ae (o.trans b);have l:=lj g b.size;clear c b;rw[<-r.out] at f;go_wp2_with fail;refine(qq (Z (A w)) (Z (A w)) _ _ f (by omega)).mono ?_;rintro e ZP ⟨rfl,h⟩;go_wp2;go_ret;exact⟨rfl,j.trans h⟩
theorem tM (k:Nat)(s:ByteArray)(n b:Int)(wd:List UInt8)(w:M)(i:s.size<=2000)(h1:(k:Int)<=15)(hz:1<Z (A w))(hwd:wd.length<=6)
  (c0:w.cell? (Q 1 (k*5) Y)=T (U ⟨wd.toArray⟩)) (c1:w.cell? (Q 1 (k*5+1) Y)=T (N I b)) (hm:0<b) :
  Calls Pg 197 #[ZH #[N I k,U s,N I n]] w λe f=>e=ZF (U ⟨(wd++(32::aF s.data.toList)).toArray⟩)/\Below (Z (A w)) w f:=by
 have g:=ep s.data.toList;have c:s.data.toList.length=s.size:=by simp
 rw[c] at g;clear c;go_enter func197,ntmps197;go_wp2_with (go_at_call 141;refine(nr _ _ i).mono ?_;rintro e f ⟨rfl,h⟩);all_goals go_ret
 refine⟨fP ?_,(br.alloc ly _).trans (h.mono (by simp))⟩;apply ON;simp
theorem uS (k m:Nat)(s:ByteArray)(l:Int)(wd:List UInt8)(w:M)(h:m<=2000)(h1:(k:Int)<=15)(hz:1<Z (A w))(hwd:wd.length<=6)(f:Pow w)
  (c0:w.cell? (Q 1 (k*5) Y)=T (U ⟨wd.toArray⟩)) (c1:w.cell? (Q 1 (k*5+1) Y)=T (N I 0)) (c2:w.cell? (Q 1 (k*5+2) Y)=T (N I l)) (hm:0<l) :
  Calls Pg 197 #[ZH #[N I k,U s,N I m]] w λe b=>e=ZF (U ⟨(wd++(32::Lib.decDigits m)).toArray⟩)/\Below (Z (A w)) w b:=by
 have hq:=nQ m h;have n:=ae f;clear f;go_enter func197,ntmps197;go_wp2_with fail;have c:=ae (br.alloc (n6 (Z (A w))) (J #[N I k,U s,N I m] 151));refine(Tryz.strconv_Itoa (m:Int) (by omega) (by omega) _ (n.out.aa c.out ly)).mono ?_;rintro e b ⟨rfl,j,os,g⟩;have i:Below (Z (A w)+1) (w.alloc (J #[N I k,U s,N I m] 151)) b:=by rw[g];exact jq (os:=os) rfl rfl rfl rfl (by simp)
 have o:=ae i;clear i g;rw[Lib.itoa_nonneg];go_wp2;all_goals go_ret
 refine⟨fP ?_,c.out.trans (o.out.mono (by omega))⟩;apply ON;simp
theorem tN (k:Nat)(s:ByteArray)(n:Int)(wd:List UInt8)(w:M)(h1:(k:Int)<=15)(hz:1<Z (A w))
  (c0:w.cell? (Q 1 (k*5) Y)=T (U ⟨wd.toArray⟩)) (c1:w.cell? (Q 1 (k*5+1) Y)=T (N I 0)) (c2:w.cell? (Q 1 (k*5+2) Y)=T (N I 0)) :
  Calls Pg 197 #[ZH #[N I k,U s,N I n]] w λe b=>e=ZF (U ⟨wd.toArray⟩)/\Below (Z (A w)) w b:=by
 go_enter func197,ntmps197;go_wp2;go_ret;exact⟨rfl,br.alloc ly _⟩
theorem yi:∀k:Nat,k<16->(word (k:Int)).length<=6:=by intro k hk;rcases(show k=0∨k=1∨k=2∨k=3∨k=4∨k=5∨k=6∨k=7∨k=8∨k=9∨k=10∨k=11∨k=12∨k=13∨k=14∨k=15 by omega) with rfl|rfl|rfl|rfl|rfl|rfl|rfl|rfl|rfl|rfl|rfl|rfl|rfl|rfl|rfl|rfl;all_goals decide
theorem uT (op:Int)(s:ByteArray)(n:Int)(w:M)(h:aH op s.size n=ZG)(f:Tab w)(r:TabW w)(l:Pow w):Calls Pg 197 #[ZH #[N I op,U s,N I n]] w λe q=>e=ZF (U ⟨(aR op s.data.toList n).toArray⟩)/\Below (Z (A w)) w q:=by
 obtain⟨k,rfl⟩:∃k:Nat,op=k:=by
  rcases iT h with ⟨rfl,_⟩|⟨b,_⟩|⟨b,_⟩
  {exact⟨1,rfl⟩};{exact⟨op.toNat,by omega⟩};{exact⟨op.toNat,by omega⟩}
 have c:k<16:=by unfold aH at h;rw[z8] at h;omega
 have c0:=r k c;obtain⟨c1,c2⟩:=f.2 k c;rcases iT h with ⟨j,p,rfl⟩|⟨b,rfl,m,rfl,o⟩|⟨b,rfl,rfl⟩
 ·have e:aR k s.data.toList 0=word k++(32::aF s.data.toList):=by rw[j];rfl
  rw[e];exact tM k s 0 _ _ w p (by omega) f.1 (yi k c) c0 c1 (by rw[j];decide)
 ·have e:aR k [] m=word k++(32::Lib.decDigits m):=by
   rcases b with h|h|h|h|h<;>rw[h]<;>simp[aR,kind]
  have g:aE k=0:=by rcases b with h|h|h|h|h<;>rw[h]<;>decide
  have i:0<bO k:=by rcases b with h|h|h|h|h<;>rw[h]<;>decide
  rw[show(⟨#[]⟩:ByteArray).data.toList=[] from rfl,e];rw[g] at c1;exact uS k m _ _ _ w o (by omega) f.1 (yi k c) l c0 c1 c2 i
 ·have e:aR k [] 0=word k:=by
   rcases b with h|h|h|h|h|h|h|h|h<;>rw[h]<;>simp[aR,kind]
  have g:aE k=0:=by rcases b with h|h|h|h|h|h|h|h|h<;>rw[h]<;>decide
  have i:bO k=0:=by rcases b with h|h|h|h|h|h|h|h|h<;>rw[h]<;>decide
  rw[show(⟨#[]⟩:ByteArray).data.toList=[] from rfl,e];rw[g] at c1;rw[i] at c2;exact tN k _ 0 _ w (by omega) f.1 c0 c1 c2
def bH (c:UInt8):Bool:=([32,10]:List UInt8).contains c
def dm:List UInt8->Nat->List UInt8
 |l,0=>(l.dropWhile bH).takeWhile (λc=>!bH c)
 |l,n+1=>if (l.dropWhile bH).takeWhile (λc=>!bH c)=[] then [] else dm ((l.dropWhile bH).dropWhile (λc=>!bH c)) n
def kE (s:ByteArray)(n:Nat):ByteArray:=⟨(dm s.data.toList n).toArray⟩
theorem nu (l:List UInt8)(n:Nat):dm l n=match n with
 |0=>(l.dropWhile bH).takeWhile (λc=>!bH c)
 |n+1=>if (l.dropWhile bH).takeWhile (λc=>!bH c)=[] then [] else dm ((l.dropWhile bH).dropWhile (λc=>!bH c)) n:=by
 cases n<;>simp[dm]
theorem gB (l:List UInt8)(p:UInt8->Bool):(l.dropWhile p).length<=l.length:=by
 induction l with
 |nil=>simp
 |cons b l ih =>
  rw[WN];split;{simp;omega};{simp}
theorem nw (m:Nat):dm [] m=[]:=by cases m<;>simp[dm]
theorem sK{c:UInt8}(h:bH c=ZG)(m:Nat):dm (c::l) m=dm l m:=by rw[nu,nu l];simp only[WN,h,if_true]
theorem qt (i:u≠[])(h:∀c∈u,bH c=ZA)(g:r=[]∨∃c l,r=c::l/\bH c=ZG):(u++r).dropWhile bH=u++r/\(u++r).takeWhile (λc=>!bH c)=u/\(u++r).dropWhile (λc=>!bH c)=r:=by
 obtain⟨c,u',rfl⟩:=UA i;refine⟨?_,?_,?_⟩;{rw[IN,WN,gM (by simp[h c (by simp)])]}
 ·rw[List.takeWhile_append_of_pos (λa f=>by simp[h a f])];rcases g with rfl|⟨d,l,rfl,b⟩
  {simp};{simp[b]}
 ·rw[List.dropWhile_append_of_pos (λa f=>by simp[h a f])];rcases g with rfl|⟨d,l,rfl,b⟩
  {simp};{simp[b]}
theorem zM (b:u≠[])(h:∀c∈u,bH c=ZA)(f:r=[]∨∃c l,r=c::l/\bH c=ZG):dm (u++r) 0=u:=by obtain⟨h1,h2,h3⟩:=qt b h f;rw[dm,h1,h2]
theorem zN (b:u≠[])(h:∀c∈u,bH c=ZA)(f:r=[]∨∃c l,r=c::l/\bH c=ZG)(m:Nat):dm (u++r) (m+1)=dm r m:=by obtain⟨h1,h2,h3⟩:=qt b h f;rw[dm,h1,h2,h3,gM b]
theorem yj (s:ByteArray)(f i:Nat)(hf:f<i)(hi:i<=s.size)(p:∀j,(h:j<s.size)->f<=j->j<i->bH s[j]=ZA)(n:s.data.toList.drop i=[]∨∃c l,s.data.toList.drop i=c::l/\bH c=ZG):dm (s.data.toList.drop f) 0=(s.extract f i).data.toList/\∀m,dm (s.data.toList.drop f) (m+1)=dm (s.data.toList.drop i) m:=by
 have hL:s.data.toList.length=s.size:=rfl;have e:s.data.toList.drop f=(s.data.toList.drop f).take (i - f)++s.data.toList.drop i:=by
  conv=>lhs;rw[<-PQ (i - f) (s.data.toList.drop f)]
  rw[List.drop_drop];congr 2;omega
 have r:(s.extract f i).data.toList=(s.data.toList.drop f).take (i - f):=by simp only[PO,QE,PJ]
 have g:(s.data.toList.drop f).take (i - f)≠[]:=by
  intro e;have o:((s.data.toList.drop f).take (i - f)).length=0:=by rw[e];rfl
  rw[OR,LK] at o;omega
 have b:∀c∈(s.data.toList.drop f).take (i - f),bH c=ZA:=by intro c b;obtain⟨j,q,rfl⟩:=List.mem_iff_getElem.1 b;rw[OR,LK] at q;have:=p (f+j) (by omega) (by omega) (by omega);simp only[List.getElem_take,List.getElem_drop,Array.getElem_toList];exact this
 refine⟨?_,λm=>?_⟩
 ·rw[r];conv=>lhs;rw[e]
  exact zM g b n
 ·conv=>lhs;rw[e]
  exact zN g b n m
theorem xj (s:ByteArray)(n:Nat)(w:M)(hs:s.size<=2000)(hn:n<=2000):Calls Pg 264 #[U s,N I n] w λe P=>e=ZF (U (kE s n))/\Below (Z (A w)) w P:=by
  have hL:s.data.toList.length=s.size:=rfl;have o:∀i:Nat,(h:i<s.size)->s.data.toList.drop i=s[i]::s.data.toList.drop (i+1):=λi h=>RB (by rw[hL];exact h);have G:=ae o;have l:∀i:Nat,s.size<=i->s.data.toList.drop i=[]:=λi h=>VL (by rw[hL];exact h);have q:=ae l;clear o l;go_enter func264,ntmps264;go_wp2
  go_loopw [1,5,6] (λR ZQ F wr=>∃(i m:Nat),i<=s.size+1/\m<=2000/\F=N I i/\R=N I m/\Below (Z (A w)) w wr /\
      ((ZQ=N I (-1)/\dm (s.data.toList.drop i) m=dm s.data.toList n) ∨
       ∃f:Nat,ZQ=N I f/\f<i/\i<=s.size/\(∀j,(h:j<s.size)->f<=j->j<i->bH s[j]=ZA)/\dm (s.data.toList.drop f) m=dm s.data.toList n)) (λ_ _ F _=>s.size+1 - (intOf F).toNat)
  case atStart=>exact⟨0,n,by omega,hn,rfl,rfl,dB _ _,.inl ⟨rfl,rfl⟩⟩
  case round =>
    obtain⟨i,m,hi,C,rfl,rfl,ZR,B⟩:=hrel;have r:=ae ZR;clear ZR;by_cases hle:i<=s.size
    · by_cases ZN:i=s.size
      · subst ZN;have g:=q.out s.size ly;have D:=q.out (s.size+1) (by omega);rcases B with ⟨rfl,b⟩|⟨f,rfl,y,_,p,b⟩
        {have c:=ae b;rw[g,nw] at c;clear b g;go_wp2;exact⟨⟨s.size+1,m,by omega,C,by go_num,rfl,r,.inl ⟨rfl,by rw[D,nw];exact c⟩⟩,by first|(simp[intOf];done)|(simp[intOf];omega)⟩}
        · obtain⟨x,ZS⟩:=yj s f s.size y ly p (.inl g);have H:=ae x;have z:=ae ZS;have c:=ae b;clear p b x ZS;rw[g] at z;clear g;by_cases t:m=0;{subst t;rw[H.out] at c;go_wp2;go_ret;refine⟨fP ?_,r⟩;unfold kE;rw[<-c.out]}
          · have ZP:((m:Int) == 0)=ZA:=by simp[t]
            obtain⟨m,rfl⟩:∃E,m=E+1:=⟨m - 1,by omega⟩
            go_wp2;exact⟨⟨s.size+1,m,by omega,by omega,by go_num,by go_num,r,.inl ⟨rfl,by rw[D,<-z.out];exact c⟩⟩,by first|(simp[intOf];done)|(simp[intOf];omega)⟩
      · have L:i<s.size:=by omega
        have heb:((i:Int) == (s.size:Int))=ZA:=by simp;omega
        have g:=G.out i L;cases hgp:bH s[i] with
        |false =>
          have K:((s[i].toNat:Int) == 32)=ZA:=by
            have:¬ s[i]=32:=λe=>by rw[e] at hgp;exact absurd hgp (by decide)
            have h2:¬ s[i].toNat=32:=λe=>this (SY.1 e);simp;omega
          have S:((s[i].toNat:Int) == 10)=ZA:=by
            have:¬ s[i]=10:=λe=>by rw[e] at hgp;exact absurd hgp (by decide)
            have h2:¬ s[i].toNat=10:=λe=>this (SY.1 e);simp;omega
          have u:=ae hgp;clear hgp;rcases B with ⟨rfl,b⟩|⟨f,rfl,y,_,p,b⟩
          · have c:=ae b;clear b g;go_wp2
            exact⟨⟨i+1,m,by omega,C,by go_num,rfl,r,.inr ⟨i,rfl,by omega,by omega,λj h h1 h2=>by
              obtain rfl:j=i:=by omega
              exact u,c⟩⟩,by first|(simp[intOf];done)|(simp[intOf];omega)⟩
          · have c:=ae b;have ZO:=ae p;clear b g p;go_wp2
            exact⟨⟨i+1,m,by omega,C,by go_num,rfl,r,.inr ⟨f,rfl,by omega,by omega,λj h h1 h2=>by
              by_cases e:j=i;{subst e;exact u}
              · exact ZO j h h1 (by omega),c⟩⟩,by first|(simp[intOf];done)|(simp[intOf];omega)⟩
        |true =>
          have O:((s[i].toNat:Int) == 32)=ZG∨(((s[i].toNat:Int) == 32)=ZA/\((s[i].toNat:Int) == 10)=ZG):=by
            have:s[i]=32∨s[i]=10:=by simpa[bH] using hgp
            rcases this with e|e;{left;rw[e];rfl};{right;rw[e];exact⟨rfl,rfl⟩}
          have u:=ae hgp;clear hgp;rcases O with K|⟨K,S⟩
          all_goals
            rcases B with ⟨rfl,b⟩|⟨f,rfl,y,_,p,b⟩
            · have c:=ae b
              rw[g,sK u.out] at c;clear b g;go_wp2;exact⟨⟨i+1,m,by omega,C,by go_num,rfl,r,.inl ⟨rfl,c⟩⟩,by first|(simp[intOf];done)|(simp[intOf];omega)⟩
            · obtain⟨x,ZS⟩:=yj s f i y (by omega) p (.inr ⟨_,_,g,u⟩)
              have H:=ae x;have z:=ae ZS;have c:=ae b;rw[g] at z;clear p b x ZS g;by_cases t:m=0
              · subst t
                rw[H.out] at c;go_wp2;go_ret;refine⟨fP ?_,r⟩;unfold kE;rw[<-c.out]
              · have ZP:((m:Int) == 0)=ZA:=by simp[t]
                obtain⟨m,rfl⟩:∃E,m=E+1:=⟨m - 1,by omega⟩
                rw[z.out,sK u.out] at c;go_wp2;exact⟨⟨i+1,m,by omega,by omega,by go_num,by go_num,r,.inl ⟨rfl,c⟩⟩,by first|(simp[intOf];done)|(simp[intOf];omega)⟩
    · obtain rfl:i=s.size+1:=by omega
      rcases B with ⟨rfl,b⟩|⟨f,rfl,y,hz,p,b⟩
      {have c:=ae b;rw[q.out _ (by omega),nw] at c;clear b;go_wp2;go_ret;refine⟨fP ?_,r⟩;unfold kE;rw[<-c.out]};{omega}
def Rep (S:Nat->ByteArray):List ByteArray->Prop
 |[]=>True
 |x::r=>S r.length=x/\Rep S r
abbrev Res:=(List ByteArray × Nat) ⊕ (Int × ByteArray) ⊕ (Bool × ByteArray × List ByteArray)
def kF (ask:Bool)(a:ByteArray)(r:List ByteArray)(here looks:Nat):Res :=
 if aw a=ZA then .inr (.inl (2,(fh here))) else if looks=200 then .inr (.inl (3,⟨#[]⟩)) else .inr (.inr (ask,a,r))
def dQ (op n:Nat)(t:ByteArray)(here looks:Nat)(c:List ByteArray):Res :=
 match op,c with
 |1,c=>.inl ((t::c),(here+1))
 |2,b::a::r=>if a.size+b.size<=2000 then .inl (((a++b)::r),(here+1)) else .inr (.inl (2,(fh here)))
 |3,a::r=>.inl (((if n<a.size then a.extract 0 n else a)::r),(here+1))
 |4,a::r=>.inl (((if n<a.size then a.extract n a.size else ⟨#[]⟩)::r),(here+1))
 |5,a::r=>.inl ((kE a n::r),(here+1))
 |6,b::a::r=>.inl ((ik (b.toList == a.toList)::r),(here+1))
 |7,a::r=>.inl ((a::a::r),(here+1))
 |8,b::a::r=>.inl ((a::b::r),(here+1))
 |9,_::r=>.inl (r,(here+1))
 |10,c=>.inl (c,n)
 |11,a::r=>.inl (r,(if a.toList=[]∨(a.toList == [48])=ZG then n else here+1))
 |12,a::r=>kF ZG a r here looks
 |13,a::r=>kF ZA a r here looks
 |14,a::_=>.inr (.inl (1,a))
 |15,a::_=>.inr (.inl (0,a))
 |_,_=>.inr (.inl (0,⟨#[]⟩))
theorem Only.aq{u:M}(h:Only b u w)(f:Below (Z (A w)) w c):Only b u c:=h.trans (Only.u f)
theorem Only.frozen (h:Only b w c)(k o:Nat)(f:k<Z (A w))(hb:k≠b):c.frozen? (Q k o Y)=w.frozen? (Q k o Y):=JN (w:=w) (a:=(Q k o Y)) (h.block k f hb)
def jV (op:Nat)(b:List ByteArray):Bool:=decide (ba op<=b.length/\b.length - ba op+cB op<=50)
def dt (f:Nat->Ins)(cnt place steps looks:Nat)(b:List ByteArray):Res :=
 if cnt<=place then .inr (.inl (2,(fh place))) else if steps=2000 then .inr (.inl (3,⟨#[]⟩)) else
  if jV (f place).op.toNat b=ZA then .inr (.inl (2,(fh place))) else dQ (f place).op.toNat (f place).n.toNat (f place).s place looks b
def fw (cnt place steps:Nat):Nat:=if cnt<=place then steps else if steps=2000 then steps else steps+1
structure Sim (m:Mst)(place steps looks:Nat)(stk:List ByteArray):Prop where
 rep:Rep m.S stk
 size:m.size=stk.length
 len:stk.length<=50
 hpl:m.place=place
 hst:m.steps=steps
 hlk:m.looks=looks
 le:∀x∈stk,x.size<=2000
 pl:place<=2000
 st:steps<=2000
 lk:looks<=200
theorem uU (l:List UInt8)(n:Nat):(dm l n).length<=l.length:=by
 induction n generalizing l with
 |zero =>rw[dm];have h1:=gB l bH;have h2:((l.dropWhile bH).takeWhile (λc=>!bH c)).length<=(l.dropWhile bH).length:=(List.takeWhile_sublist _).length_le;omega
 |succ n b =>
  rw[dm];split;{simp};{have h1:=gB l bH;have h2:=gB (l.dropWhile bH) (λc=>!bH c);have h3:=b ((l.dropWhile bH).dropWhile (λc=>!bH c));omega}
theorem qu (s:ByteArray)(n:Nat):(kE s n).size<=s.size:=uU s.data.toList n
def kV (res:Res)(looks:Nat):Prop:=match res with
 |.inl (stk,p)=>stk.length<=50/\(∀x∈stk,x.size<=2000)/\p<=2000
 |.inr (.inl (_,_))=>True
 |.inr (.inr (_,name,stk))=>stk.length<50/\(∀x∈stk,x.size<=2000)/\aw name=ZG/\looks<200
theorem mO (op n here looks:Nat)(t:ByteArray)(b:List ByteArray)(i:b.length<=50)(c:∀x∈b,x.size<=2000)(m:t.size<=2000)(hn:n<=2000)(hh:here<2000)(hlk:looks<=200)(h1:1<=op)(h15:op<=15)(hb:jV op b=ZG):kV (dQ op n t here looks b) looks:=by
 have g:∀ask a r,b=a::r->kV (kF ask a r here looks) looks:=by
  intro ask a r e;subst e;simp only[eL] at i;unfold kF;split;{trivial};{rename_i h1;split;{trivial};{rename_i h2;exact⟨by omega,λx j=>c x (by simp[j]),by simpa using h1,by omega⟩}}
 simp only[jV,z8] at hb;obtain⟨f,l⟩:=hb;rcases(show op=1∨op=2∨op=3∨op=4∨op=5∨op=6∨op=7∨op=8∨op=9∨op=10∨op=11∨op=12∨op=13∨op=14∨op=15 by omega) with rfl|rfl|rfl|rfl|rfl|rfl|rfl|rfl|rfl|rfl|rfl|rfl|rfl|rfl|rfl;all_goals simp only[ba,cB] at f l
 {refine⟨by simp at l ⊢;omega,λx j=>?_,by omega⟩;rcases AT.1 j with rfl|j;{exact m};{exact c x j}}
 ·match b,f with
  |x::y::r,_ =>
   show kV (if y.size+x.size<=2000 then _ else _) _;split;{refine⟨by simp at i ⊢;omega,λz hz=>?_,by omega⟩;rcases AT.1 hz with rfl|hz;{simp;omega};{exact c z (by simp[hz])}};{trivial}
 ·match b,f with
  |x::r,_ =>
   refine⟨i,λz hz=>?_,by omega⟩;have j:=c x (by simp);rcases AT.1 hz with rfl|hz;{split;{simp;omega};{exact j}};{exact c z (by simp[hz])}
 ·match b,f with
  |x::r,_ =>
   refine⟨i,λz hz=>?_,by omega⟩;have j:=c x (by simp);rcases AT.1 hz with rfl|hz;{split;{simp;omega};{decide}};{exact c z (by simp[hz])}
 ·match b,f with
  |x::r,_ =>
   refine⟨i,λz hz=>?_,by omega⟩;rcases AT.1 hz with rfl|hz;{exact p7 (qu _ _) (c x (by simp))};{exact c z (by simp[hz])}
 ·match b,f with
  |x::y::r,_ =>
   refine⟨by simp at i ⊢;omega,λz hz=>?_,by omega⟩;rcases AT.1 hz with rfl|hz;{unfold ik;split<;>decide};{exact c z (by simp[hz])}
 ·match b,f with
  |x::r,_ =>
   refine⟨by simp at l ⊢;omega,λz hz=>?_,by omega⟩;rcases AT.1 hz with rfl|hz;{exact c _ (by simp)};{exact c z hz}
 ·match b,f with
  |x::y::r,_ =>refine⟨i,λz hz=>?_,by omega⟩;simp only[AT] at hz;exact c z (by simp only[AT];rcases hz with h|h|h<;>simp[h])
 ·match b,f with
  |x::r,_=>exact⟨by simp at i;omega,λz hz=>c z (by simp[hz]),by omega⟩
 {exact⟨i,c,hn⟩}
 ·match b,f with
  |x::r,_ =>refine⟨by simp at i;omega,λz hz=>c z (by simp[hz]),?_⟩;split<;>omega
 ·match b,f with
  |x::r,_=>exact g ZG x r rfl
 ·match b,f with
  |x::r,_=>exact g ZA x r rfl
 ·match b,f with
  |x::r,_=>trivial
 ·match b,f with
  |x::r,_=>trivial
abbrev Halt:=(Int × ByteArray × Nat) ⊕ (Bool × ByteArray × List ByteArray × Nat × Nat × Nat)
theorem uV{cnt:Nat}{b:List ByteArray}{p:Nat}(h:dt f cnt place steps looks b=.inl (s,p)):fw cnt place steps=steps+1/\steps≠2000:=by
 unfold dt at h;unfold fw;split at h;{cases h};{split at h;{cases h};{rename_i h1 h2;rw[gM h1,gM h2];exact⟨rfl,h2⟩}}
def Jo (m:Mst):Halt->Prop
 |.inl (c,x,k)=>m.t=⟨ZG,c,x,ZA,⟨#[]⟩,k⟩
 |.inr (a,nm,s,p,k,l)=>m.t=⟨ZA,0,⟨#[]⟩,a,nm,k⟩/\Sim m p k l s/\aw nm=ZG/\s.length<50
def fY (c:Int)(x:ByteArray)(k:Nat):Turn:=⟨ZG,c,x,ZA,⟨#[]⟩,k⟩
def nW (a:Bool)(nm:ByteArray)(k:Nat):Turn:=⟨ZA,0,⟨#[]⟩,a,nm,k⟩
def dn (f:Nat->Ins)(cnt:Nat)(y:Nat->aI)(n:Nat):Nat->Nat->Nat->Nat->List ByteArray->Turn
 |0,_,_,_,_=>AK
 |k+1,place,steps,looks,stk=>match dt f cnt place steps looks stk with
  |.inr (.inl (c,x))=>fY c x (fw cnt place steps)
  |.inl (s,p)=>dn f cnt y n k p (fw cnt place steps) looks s
  |.inr (.inr (a,nm,s))=>if n<=looks then nW a nm (fw cnt place steps)
    else if a=ZA then dn f cnt y n k (place+1) (fw cnt place steps) (looks+1) (ik (y looks).has::s)
    else if (y looks).has=ZA then fY 4 nm (fw cnt place steps)
    else if (y looks).E=0 then dn f cnt y n k (place+1) (fw cnt place steps) (looks+1) ((y looks).B::s)
    else fY 5 nm (fw cnt place steps)
def Kh (f:Nat->Ins)(cnt:Nat)(y:Nat->aI)(n:Nat):Halt->Turn
 |.inl (c,x,k)=>fY c x k
 |.inr (a,nm,s,p,k,l)=>if n<=l - 1 then nW a nm k
   else if a=ZA then dn f cnt y n (2001 - k) p k l (ik (y (l - 1)).has::s)
   else if (y (l - 1)).has=ZA then fY 4 nm k
   else if (y (l - 1)).E=0 then dn f cnt y n (2001 - k) p k l ((y (l - 1)).B::s)
   else fY 5 nm k
def Hu (looks:Nat):Halt->Prop
 |.inl (_,_,_)=>True
 |.inr (_,_,_,_,_,l)=>l=looks+1
theorem qv{cnt:Nat}{b:List ByteArray}{a:Bool}{nm:ByteArray}(h:dt f cnt place steps looks b=.inr (.inr (a,nm,s))):fw cnt place steps=steps+1/\steps≠2000:=by
 unfold dt at h;unfold fw;split at h;{cases h};{split at h;{cases h};{rename_i h1 h2;rw[gM h1,gM h2];exact⟨rfl,h2⟩}}
def dk (r:aI):Bool:=decide (r.B.size<=2000/\0<=r.E/\r.E<=7)
def bU (y:Nat->aI):Nat->Bool
 |0=>ZG
 |k+1=>bU y k && dk (y k)
theorem lw{k:Nat}(h:k<=n)(hn:bU y n=ZG):bU y k=ZG:=by
 induction n with
 |zero =>
  obtain rfl:k=0:=by omega
  exact hn
 |succ m b =>
  by_cases e:k=m+1;{subst e;exact hn};{simp only[bU,zA] at hn;exact b (by omega) hn.1}
theorem ip{k:Nat}(h:k<n)(b:dk (y k)=ZA):bU y n=ZA:=by
 cases e:bU y n with
 |false=>rfl
 |true =>have h2:=lw (show k+1<=n by omega) e;simp[bU,b] at h2
theorem ES{k:Nat}(h:bU y n=ZG)(hk:k<n):(y k).B.size<=2000/\0<=(y k).E/\(y k).E<=7:=by have:=lw (show k+1<=n by omega) h;simp only[bU,zA,dk,z8] at this;exact this.2
