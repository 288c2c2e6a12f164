import Derived.Test.YtpmnbjkjpnclaaaGreatDoorOA
import Derived.Deep.RegionHeld
import Derived.Test.YtpmnbjkjpnclaaaGreatDoorRP
import Derived.Laws.Bits64b
set_option maxRecDepth 100000
set_option maxHeartbeats 4000000
set_option linter.unusedSimpArgs false
open Go renaming Addr.mk->Q,Value.slice->Z,Value.string->U,Value.int->N,Value.bool->ZD,Value.agg->ZH,Obj.cells->J,IntKind.i64->I,World->M,Value->ZC,Ending.returned->ZF,World.alloc->A,Proofs.Tryz.prog->Pg
open Option renaming none->Y,some->T
open Bool renaming false->ZA,true->ZG
namespace Go.Proofs.YtpmnbjkjpnclaaaGreatDoor.Vp
open Tryz RowKit
variable {s a b:ByteArray}{ZO i:Nat}{l:Array Bool}{w:M}
theorem IY (w:M):Calls Pg 270 #[N I 16] w λe b=>e=ZF (ZD ZG)/\b=w:=by go_enter func270,ntmps270;go_wp2;go_ret;exact⟨rfl,rfl⟩
theorem yH (k:Nat)(h:k<16)(w:M):(Instr.index 9 (U ⟨#[48,49,50,51,52,53,54,55,56,57,97,98,99,100,101,102,103,104,105,106,107,108,109,110,111,112,113,114,115,116,117,118,119,120,121,122]⟩) (N .u64 (k:Int))).run Pg w=.ok (N .u8 (cO k).toNat) w:=by rcases(show k=0∨k=1∨k=2∨k=3∨k=4∨k=5∨k=6∨k=7∨k=8∨k=9∨k=10∨k=11∨k=12∨k=13∨k=14∨k=15 by omega) with rfl|rfl|rfl|rfl|rfl|rfl|rfl|rfl|rfl|rfl|rfl|rfl|rfl|rfl|rfl|rfl;all_goals kernel_rfl
theorem Ku (q:Nat)(h:q<=18446744073709551615):bits BinOp.and IntKind.u64 (q:Int) 15=((q % 16:Nat):Int):=by have h1:=bits_and_u64_nat q 15 (by omega) (by omega);rw[show q &&& 15=q % 16 from Nat.and_two_pow_sub_one_eq_mod q 4] at h1;exact h1
theorem IZ (g r k:Nat)(h:r+1+k=65)(V:M):(Instr.sliceAt 339 (.pointer (T (Q g 0 Y))) (T (N I (r:Int))) Y Y).run Pg V=.ok (Z (T (Q g r Y)) (k+1) (k+1)) V:=by
 have b:Pg.arrayLen 339=65:=by kernel_rfl
 have f:Pg.elem 339=5:=by kernel_rfl
 have i:Pg.underlying 339=T (.array (Pg.arrayLen 339) (Pg.elem 339)):=by kernel_rfl
 rw[run_sliceAt_array_l V 339 (Q g 0 Y) i I (r:Int) (by omega) (by rw[b];omega),f,b];have c:((Q g 0 Y):Addr).add (r*1)=(Q g r Y):=by unfold Addr.add;split<;>simp_all
 rw[TD];simp only[TC,slicedAt,Int.toNat_natCast];rw[gM (by omega),c];have e:65 - r=k+1:=by omega
 rw[e]
theorem tk{k r d:Nat}{cs:Array ZC}(b:r<cs.size)(c:ZO / 16 ^ k % 16=d)(h:∀j,j<k->cs[r+1+j]?=(Lib.byteCells (bR ZO k))[j]?):∀j,j<k+1->(cs.setIfInBounds r (N .u8 (cO d).toNat))[r+j]?=(Lib.byteCells (bR ZO (k+1)))[j]?:=by
 intro j hj;rw[bR,c];cases j with
 |zero=>simp[Lib.byteCells,b]
 |succ j =>have h1:=h j (by omega);rw[show r+1+j=r+(j+1) by omega] at h1;rw[Array.getElem?_setIfInBounds_ne (by omega),h1];simp[Lib.byteCells]
theorem Kv{k q:Nat}(hN:ZO<=18446744073709551615)(hk:k<=15)(b:q=ZO / 16 ^ k)(h16:16<=q):k<15:=by
 rcases PR k 15 with h|h;{exact h}
 ·obtain rfl:k=15:=by omega
  have:q<=15:=by rw[b];omega
  omega
def Deb (w:M):Prop:=w.cell? (Q 10 15 Y)=T (N .u8 4)
theorem I6 (w:M)(h:Deb w):Calls Pg 293 #[N .u64 16] w λe b=>e=ZF (N I 4)/\b=w:=by
 unfold Deb at h;have hq:IntKind.u64.wrap (bits BinOp.and IntKind.u64 16 (IntKind.u64.wrap (-16))*285870213051353865) / 288230376151711744=15:=by kernel_rfl
 go_enter func293,ntmps293;go_wp2;go_ret;exact⟨rfl,rfl⟩
theorem Kw (w:M)(h:Deb w):Calls Pg 271 #[N .u64 16] w λe b=>e=ZF (N I 4)/\b=w:=by have H:=ae h;clear h;go_enter func271,ntmps271;go_wp2_with fail;refine(I6 _ H).mono ?_;rintro e w1 ⟨rfl,rfl⟩;go_wp2;go_ret;exact⟨rfl,rfl⟩
theorem tQ (ZO:Nat)(w:M)(F:ZO<=18446744073709551615)(h:Deb w)(ZM:10<w.heap.size):Calls Pg 225 #[Z Y 0 0,N .u64 (ZO:Int),N I 16,ZD ZA,ZD ZA] w λe X=>∃m:Nat,m<=16/\ZO<16 ^ m/\e=ZF (.tuple #[Z Y 0 0,U ⟨(bR ZO m).toArray⟩])/\Below w.heap.size w X:=by
 have H:=ae h;clear h;go_enter func225,ntmps225;go_wp2_with fail;have t:=ae ((q9 w).alloc ly (J zeroCells339 339));have c:Hid ((w.alloc (J zeroCells339 339)).heap[w.heap.size]?=T (J zeroCells339 339)):=nL w _;have z:Hid (Deb (w.alloc (J zeroCells339 339))):=(t.cell (p:=(Q 10 15 Y)) ZM).trans H;have x:(zeroCells339).size=65:=by kernel_rfl
 generalize zeroCells339=E at t c z x ⊢;generalize w.alloc (J E 339)=W at t c z ⊢;refine(IY _).mono ?_;rintro e w1 ⟨rfl,rfl⟩;go_wp2_with fail;refine(Kw _ z).mono ?_;rintro e ZQ ⟨rfl,rfl⟩;go_wp2;have hwg:w.heap.size<ZQ.heap.size:=(eT.1 c).1;generalize ZP:w.heap.size=g at c ⊢;go_loopw [1,13] (λu i wr=>∃(k q p:Nat) (b:Array ZC),p+k=65/\k<=15/\Hid (q=ZO / 16 ^ k)/\q<=18446744073709551615/\u=N .u64 q/\i=N I p/\Hid (wr.heap[g]?=T (J b 339))/\b.size=65/\Hid (∀j,j<k->b[p+j]?=(Lib.byteCells (bR ZO k))[j]?)/\Hid (Below g ZQ wr)) (λu _ _=>(intOf u).toNat);case atStart=>exact⟨0,ZO,65,E,by omega,by omega,by show _=_;simp,F,rfl,rfl,c,x,λj n=>absurd n (PS _),dB _ _⟩
 case round =>
  obtain⟨k,q,p,b,hpk,ZK,f,G,rfl,rfl,s,O,D,R⟩:=hrel;obtain⟨r,rfl⟩:∃r,p=r+1:=⟨p - 1,by omega⟩
  have hgz:g<wr.heap.size:=(eT.1 s).1;have cr:wr.cell? (Q g r Y)=T b[r]:=by simp[World.cell?,s.out,show r<b.size by omega]
  have fr:wr.frozen? (Q g r Y)=ZA:=by simp[World.frozen?,s.out]
  have hp1:((r+1:Nat):Int) - 1=r:=by omega
  by_cases hge:(16:Int)<=q
  ·have hk15:=Kv F ZK f.out (by omega);obtain⟨d,C⟩:∃d:Nat,d=q % 16:=⟨_,rfl⟩
   obtain⟨e,L⟩:∃e:Nat,e=q / 16:=⟨_,rfl⟩
   have V:=Ku q G;rw[<-C] at V;have ZR:=yH d (by omega);have hd1:(q:Int) / 16=(e:Int):=by omega
   have S:Hid (e=ZO / 16 ^ (k+1)):=by show _=_;rw[L,f.out,Nat.div_div_eq_div_mul,Nat.pow_succ]
   have heb:e<q:=by omega
   have o:=ae (tk (ZO:=ZO) (k:=k) (r:=r) (d:=d) (cs:=b) (by omega) (by rw[<-f.out,<-C]) D.out);clear C L;go_wp2;exact⟨⟨k+1,e,r,b.setIfInBounds r (N .u8 (cO d).toNat),by omega,by omega,S,by omega,rfl,rfl,Lib.heap_setCell_same s _,by simp[O],o.out,R.setCell (p:=(Q g r Y)) ly _⟩,by simp[intOf];omega⟩
  ·have l:q<16:=by omega
   have ZR:=yH q l;have hsl:=IZ g r k (by omega);have o:=ae (tk (ZO:=ZO) (k:=k) (r:=r) (d:=q) (cs:=b) (by omega) (by rw[<-f.out];omega) D);have hcv:(convert 22 9 (Z (T (Q g r Y)) (k+1) (k+1))).run Pg (wr.setCell (Q g r Y) (N .u8 (cO q).toNat))=.ok (U ⟨(bR ZO (k+1)).toArray⟩) (wr.setCell (Q g r Y) (N .u8 (cO q).toNat)):=by
    have h1:=P0 (P:=Pg) (wr.setCell (Q g r Y) (N .u8 (cO q).toNat)) 22 9 5 (Q g r Y) (k+1) (bR ZO (k+1)) IS N5 F3 (λj n=>by
     have K:j<k+1:=by rw[fK] at n;exact n
     have h2:=o.out j K;have y:((Q g r Y):Addr).add j=(Q g (r+j) Y):=by unfold Addr.add;split<;>simp_all
     rw[y];have h3:=Lib.heap_setCell_same (i:=r) s (N .u8 (cO q).toNat);simp only[World.cell?,h3];rw[h2]
     simp[Lib.byteCells,n])
    rw[fK] at h1;exact h1
   have ZL:=ae (R.setCell (p:=(Q g r Y)) ly (N .u8 (cO q).toNat));have B:Hid (ZO<16 ^ (k+1)):=by
    show ZO<16 ^ (k+1);have h1:ZO / 16 ^ k<16:=by rw[<-f.out];exact l
    rw[Nat.pow_succ,Nat.mul_comm];exact(Nat.div_lt_iff_lt_mul (Nat.pow_pos (by omega))).1 h1
   have ZS:=t.out;rw[ZP] at ZS;have ZN:=ae (ZS.trans ZL);clear ZS;go_wp2;go_ret2;exact⟨k+1,by omega,B,rfl,ZN⟩
theorem tm {ZO m:Nat}(h:ZO<16 ^ m):∀c,bR ZO (m+c)=Lib.repeatL [48] c++bR ZO m
 |0=>by simp[Lib.repeatL]
 |c+1=>by have b:ZO<16 ^ (m+c):=lj h (Nat.pow_le_pow_right (by omega) (by omega));have e:ZO / 16 ^ (m+c)=0:=Nat.div_eq_of_lt b;rw[show m+(c+1)=m+c+1 by omega,bR,e,tm h c];rfl
def eI (form b:ByteArray):List UInt8:=bR (sumTo (b++⟨#[10]⟩++form) (b++⟨#[10]⟩++form).size).toNat 16++[10]
theorem Az (c:Nat):(Lib.repeatL [48] c).length=c:=by
 induction c with
 |zero=>rfl
 |succ c b=>simp[Lib.repeatL,b]
theorem tR (ZO:Nat)(w:M)(j:ZO<=18446744073709551615)(h:Deb w)(i:10<w.heap.size):Calls Pg 185 #[N .u64 (ZO:Int),N I 16] w λe g=>∃m:Nat,m<=16/\ZO<16 ^ m/\e=ZF (U ⟨(bR ZO m).toArray⟩)/\Below w.heap.size w g:=by have H:=ae h;clear h;go_enter func185,ntmps185;go_wp2_with fail;refine(tQ ZO _ j H i).mono ?_;rintro e w1 ⟨m,n,b,rfl,c⟩;have l:=ae c;have f:=ae b;clear c b;go_wp2;go_ret;exact⟨m,n,f,rfl,l⟩
theorem tS (ZO:Nat)(w:M)(j:ZO<=18446744073709551615)(h:Deb w)(i:10<w.heap.size):Calls Pg 133 #[N .u64 (ZO:Int),N I 16] w λe g=>∃m:Nat,m<=16/\ZO<16 ^ m/\e=ZF (U ⟨(bR ZO m).toArray⟩)/\Below w.heap.size w g:=by have H:=ae h;clear h;go_enter func133,ntmps133;go_wp2_with fail;refine(tR ZO _ j H i).mono ?_;rintro e w1 ⟨m,n,b,rfl,c⟩;have l:=ae c;have f:=ae b;clear c b;go_wp2;go_ret;exact⟨m,n,f,rfl,l⟩
theorem qN (form b:ByteArray)(w:M)(hf:form.size<=1048576)(hk:b.size<=60)(h:Deb w)(x:10<w.heap.size):Calls Pg 75 #[U form,U b] w λe ZS=>e=ZF (U ⟨(eI form b).toArray⟩)/\Below w.heap.size w ZS:=by
 have H:=ae h;clear h;obtain⟨ZM,l⟩:∃ZM,ZM=eI form b:=⟨_,rfl⟩
 rw[<-l];have hA1:¬ 9223372036854775807<b.size+1:=by omega
 have hA2:¬ 9223372036854775807<b.size+1+form.size:=by omega
 have y:(b++⟨#[10]⟩++form).size<=1048637:=by simp only[IH];have:(⟨#[10]⟩:ByteArray).size=1:=rfl;omega
 have SM:=ae (GU (b++⟨#[10]⟩++form) w (by omega));obtain⟨ZO,j⟩:∃ZO:Nat,sumTo (b++⟨#[10]⟩++form) (b++⟨#[10]⟩++form).size=(ZO:Int):=⟨_,(UT (lL _ _).1).symm⟩
 have s:ZO<=18446744073709551615:=by have:=(lL (b++⟨#[10]⟩++form) (b++⟨#[10]⟩++form).size).2;omega
 have q:Hid (ZM=bR ZO 16++[10]):=by show _=_;rw[l];unfold eI;rw[j];rfl
 rw[j] at SM;clear j y l;go_enter func75,ntmps75;go_wp2_with fail;refine SM.mono ?_;rintro e w1 ⟨rfl,rfl⟩;go_wp2_with fail;refine(tS ZO _ s H x).mono ?_;rintro e w2 ⟨m,hm,f,rfl,r⟩;have t:=ae r;have p:=fK ZO m;obtain⟨c,B⟩:∃c,m+c=16:=⟨16 - m,by omega⟩
 have i:Hid (ZM=Lib.repeatL [48] c++bR ZO m++[10]):=by show _=_;rw[q.out,<-B,tm f c]
 have n:=Az c;clear r f q SM;generalize bR ZO m=D at p i ⊢;subst p;have hcm:(16:Int) - (D.length:Int)=(c:Int):=by omega
 go_wp2_with fail;refine(Tryz.strings_Repeat ⟨#[48]⟩ c _ (by omega) (by have z:(⟨#[48]⟩:ByteArray).size=1:=rfl;rw[z];omega)).mono ?_;rintro e w3 ⟨rfl,g⟩;have o:=ae (t.trans (g.mono t.size));clear g;have u:(⟨#[48]⟩:ByteArray).data.toList=[48]:=rfl;rw[u];generalize Lib.repeatL [48] c=Rp at n i ⊢;go_wp2;go_ret;refine⟨fP ?_,o⟩;rw[i.out];apply ON;simp
theorem Gq (D:List UInt8):(⟨(D++[10]).toArray⟩:ByteArray)=⟨D.toArray⟩++⟨#[10]⟩:=by apply ON;simp
def df (C b:ByteArray):ByteArray:=if C.toList=[] then ⟨#[]⟩ else if 60<b.size then ⟨#[]⟩ else ⟨(eI C b).toArray⟩++C
theorem qO (f:Nat->Deed)(n:Nat):(⟨(bG f n).toArray⟩:ByteArray).size<=300000:=by
 show(bG f n).toArray.size<=300000;simp only[CV];unfold bG;split;{split;{assumption};{simp}};{simp}
theorem jF (C b:ByteArray):(⟨(eI C b).toArray⟩:ByteArray).size=17:=by show(eI C b).toArray.size=17;simp only[CV,eI,cM,fK,eL,nX]
theorem tT (s:ByteArray):(⟨(bR (sumTo s s.size).toNat 16).toArray⟩:ByteArray).size=16:=by have h:=fK (sumTo s s.size).toNat 16;generalize bR (sumTo s s.size).toNat 16=D at h ⊢;show D.toArray.size=16;rw[CV,h]
theorem tU (C b:ByteArray)(hz:¬ C.toList=[])(c:¬ 60<b.size):df C b=⟨(bR (sumTo (b++⟨#[10]⟩++C) (b++⟨#[10]⟩++C).size).toNat 16).toArray⟩++⟨#[10]⟩++C:=by unfold df;rw[gM hz,gM c];unfold eI;rw[Gq]
theorem xI (C b:ByteArray)(hl:¬ 60<b.size)(hs:C.size<=300000):((b++⟨#[10]⟩++C).size:Int)<=1048576:=by have c:(⟨#[10]⟩:ByteArray).size=1:=rfl;rw[IH,IH,c];omega
theorem Gr (C b:ByteArray)(hz:¬ C.toList=[])(c:¬ 60<b.size)(g:C.size<=300000):∃ZM:ByteArray,ZM.size=16/\df C b=ZM++⟨#[10]⟩++C/\∀W:M,Calls Pg 77 #[U (b++⟨#[10]⟩++C)] W λe f=>e=ZF (U ZM)/\Below W.heap.size W f :=
 ⟨_,tT _,tU C b hz c,λW=>uq _ W (xI C b c g)⟩
theorem j9 (a:Option Addr)(n cap:Nat)(f:Nat->Deed)(b:ByteArray)(w:M)(hn:(n:Int)<=1048576)(hk:(b.size:Int)<=1048576)(t:SlDeed w a n f)(l:∀i,i<n->cV (f i))(p:∀i,i<n->fk (f i)):Calls Pg 24 #[ZH #[Z a n cap],U b] w λe z=>e=ZF (U (df ⟨(bG f n).toArray⟩ b))/\Below w.heap.size w z:=by
 have h:=ae ((q9 w).alloc (n6 w.heap.size) (J #[Z a n cap] 37));have m:=ae (ij a n cap f (A w (J #[Z a n cap] 37)) hn (t.aa h ly) l p);have r:=qO f n;clear t l p;obtain⟨C,x⟩:∃C:ByteArray,(⟨(bG f n).toArray⟩:ByteArray)=C:=⟨_,rfl⟩
 rw[x] at r m ⊢;clear x;by_cases hz:C.toList=[]
 ·have g:df C b=⟨#[]⟩:=by simp[df,hz]
  rw[g];clear g;go_enter func24,ntmps24;go_wp2_with fail;refine m.mono ?_;rintro e q ⟨rfl,c⟩;have j:=ae (h.trans (c.mono h.size));clear c;go_wp2;go_ret;exact⟨rfl,j⟩
 have hze:C.toList.isEmpty=ZA:=by simpa using hz
 by_cases s:60<b.size
 ·have g:df C b=⟨#[]⟩:=by simp[df,s]
  rw[g];clear g;go_enter func24,ntmps24;go_wp2_with fail;refine m.mono ?_;rintro e q ⟨rfl,c⟩;have j:=ae (h.trans (c.mono h.size));clear c;go_wp2;go_ret;exact⟨rfl,j⟩
 have hld:decide (60<(b.size:Int))=ZA:=by simp;omega
 obtain⟨ZM,h16,g,o⟩:=Gr C b hz s r;rw[g];have y:=ae o;clear g o;have hA:¬ 9223372036854775807<ZM.size+1:=by omega
 have hA1:¬ 9223372036854775807<ZM.size+1+C.size:=by omega
 have hA2:¬ 9223372036854775807<b.size+1:=by omega
 have hA3:¬ 9223372036854775807<b.size+1+C.size:=by omega
 go_enter func24,ntmps24;go_wp2_with fail;refine m.mono ?_;rintro e q ⟨rfl,c⟩;have j:=ae (h.trans (c.mono h.size));clear c;go_wp2_with fail;refine(y _).mono ?_;rintro e w2 ⟨rfl,c⟩;have u:=ae (j.trans (c.mono j.size));clear c;go_wp2;go_ret;exact⟨rfl,u⟩
open Ca
def gj (s k:ByteArray):Prop:=17<=s.size/\k.size<=60/\s.extract 0 17=⟨(eI (s.extract 17 s.size) k).toArray⟩
def iO (s k:ByteArray)(r:Option (List Deed)):Prop:=(gj s k->jp (s.extract 17 s.size).data.toList r)/\(¬ gj s k->r=Y)
theorem Gs{k:ByteArray}{r f:Option (List Deed)}(h:iO s k r)(c:iO s k f):r=f:=by
 by_cases b:gj s k;{exact Ev (h.1 b) (c.1 b)};{rw[h.2 b,c.2 b]}
theorem og{k:ByteArray}(h:¬ gj s k):iO s k Y:=⟨λx=>absurd x h,λ_=>rfl⟩
def eB (w:M)(s k:ByteArray)(e:Ending)(b:M):Prop :=
 ∃(r:Option (List Deed)) (a:Option Addr) (c:Nat) (R:List DR),iO s k r/\e=ZF (.tuple #[ZH #[Z a R.length c],ZD r.isSome])/\DRow b w.heap.size (Z a R.length c) R/\R.map (·.1)=r.getD []/\SzD 300001 (R.map (·.1))/\Below w.heap.size w b
theorem ext_size (s:ByteArray)(h:17<=s.size):(s.extract 17 s.size).size=s.size - 17:=by rw[SD];omega
theorem pG (h:¬ a=b):¬ a.toList=b.toList:=λe=>h (by
 rw[BG,BG] at e
 exact ON (QZ e))
theorem wB (h:¬ a=b):(a.toList == b.toList)=ZA:=by simpa using pG h
section
variable {P:Program}{ops:Array Oper}{ZN:Exit->Act->M->Prop}{md:Region.Mode}
theorem aK{b:Oper}{v:ZC}{k:Nat}{a:Act}(hi:ops.toList[i]?=T b)(o:Region.noSelect ops=ZG)(g:Region.free md ops l i=ZG)(j:(Region.ready md ops l).contains i=ZG)
  (f:∀c a w,ZN (.panic c) (a.put b.dst v) w->ZN (.panic c) a w) (m:Region.wanted b (yielded ops a.tmps)=ZG) (n:∀w,(execOp a.eval b).run P w=.ok (.value v) w)
  (h:wpAnyH P md ops ZN (λ_=>True) k (l.setIfInBounds i ZG) (a.put b.dst v) w):wpAnyH P md ops ZN (λ_=>True) (k+1) l a w:=by
 rw[L8] at hi;exact wpAnyH_take hi o g j f (.inl ⟨m,λw _=>n w⟩) trivial h
theorem tp{o:Oper}{k:Nat}{a:Act}(c:ops.toList[i]?=T o)(f:Region.ready md ops l=[i])
  (h:∀b:Act->M->Prop,Shut (∀a w,wpAnyH P md ops ZN (λ_=>True) k (l.setIfInBounds i ZG) a w->b a w)->if Region.wanted o (yielded ops a.tmps)=ZG then Oper.wp P o a w b ZN else b (a.put o.dst undef) w) :
  wpAnyH P md ops ZN (λ_=>True) (k+1) l a w:=by
 rw[L8] at c;exact wpAnyH_ready f (UK _ _) (AllReadyH.cons c (λb g=>h b (λa w j=>g a w trivial (λ_=>j))) AllReadyH.nil)
end
theorem pH (s k:ByteArray)(w:M)(h:s.size<17):Calls Pg 25 #[U s,U k] w λe o=>eB w s k e o:=by
 have l:Hid (iO s k Y):=og λx=>by have:=x.1;omega
 have i:=ae ((q9 w).alloc ly (J #[Z Y 0 0] 37));have c:Hid (AcR (A w (J #[Z Y 0 0] 37)) w.heap.size (Z Y 0 0)):=nL w _;have h1:(s.size:Int)<17:=by omega
 unfold eB;go_enter func25,ntmps25;go_upto_region 1 with fail;generalize A w (J #[Z Y 0 0] 37)=W at i c ⊢;have f:=c.lt;go_quiet (fail);have g:=BM (q9 W) nq;have b:=ae (c.aa g f);have j:=ae (i.trans (g.mono i.size));clear g f;generalize W.drewN nq=V at b j ⊢;have c0:=b.c0;have f0:=b.fz 0;have f:=b.lt;have n:=ae (b.set (Z Y 0 0));have m:=ae (j.setCell (p:=(Q w.heap.size 0 Y)) ly (Z Y 0 0));go_wp2;try simp only[Exit.inBlock,Exit.then]
 refine bp (dl rfl _ _ w.heap.size _ rfl n) rfl ?_;exact⟨Y,Y,0,[],l,rfl,cA _ _,rfl,SzD.nil _,m⟩
theorem rT (s k:ByteArray)(w:M)(h:17<=s.size)(hk:60<k.size)(m:k.size<=maxLen)(j:s.size<=maxLen):Calls Pg 25 #[U s,U k] w λe o=>eB w s k e o:=by
 have q:Hid (iO s k Y):=og λx=>by have:=x.2.1;omega
 have i:=ae ((q9 w).alloc ly (J #[Z Y 0 0] 37));have c:Hid (AcR (A w (J #[Z Y 0 0] 37)) w.heap.size (Z Y 0 0)):=nL w _;unfold maxLen at m j;have h1:decide ((s.size:Int)<17)=ZA:=by simp;omega
 have h2:(60:Int)<(k.size:Int):=by omega
 unfold eB;go_enter func25,ntmps25;go_upto_region 1 with fail;generalize A w (J #[Z Y 0 0] 37)=W at i c ⊢;have f:=c.lt;go_quiet (fail);have g:=BM (q9 W) nq;have b:=ae (c.aa g f);have l:=ae (i.trans (g.mono i.size));clear g f;generalize W.drewN nq=V at b l ⊢;have c0:=b.c0;have f0:=b.fz 0;have f:=b.lt;have n:=ae (b.set (Z Y 0 0));have r:=ae (l.setCell (p:=(Q w.heap.size 0 Y)) ly (Z Y 0 0));go_wp2;try simp only[Exit.inBlock,Exit.then]
 refine bp (dl rfl _ _ w.heap.size _ rfl n) rfl ?_;exact⟨Y,Y,0,[],q,rfl,cA _ _,rfl,SzD.nil _,r⟩
theorem tV (s k:ByteArray)(w:M)(h:17<=s.size)(hs:s.size<=1048576)(P:k.size<=60)(hL:Lay w)(H:EV w 3)(ZN:Deb w)(ZR:10<w.heap.size):Calls Pg 25 #[U s,U k] w λe ZK=>eB w s k e ZK:=by
 have j:=ae ((q9 w).alloc ly (J #[Z Y 0 0] 37));have m:Hid (AcR (A w (J #[Z Y 0 0] 37)) w.heap.size (Z Y 0 0)):=nL w _;have h1:decide ((s.size:Int)<17)=ZA:=by simp;omega
 have h2:decide ((60:Int)<(k.size:Int))=ZA:=by simp;omega
 have g1:¬ (s.size:Int)<17:=by omega
 have g2:¬ (60:Int)<(k.size:Int):=by omega
 have h3:(17:Int)<=(s.size:Int):=by omega
 have hxs:=ext_size s h;have SO:=ae (λV (z:Below w.heap.size w V)=>qN (s.extract 17 s.size) k V (by omega) P ((z.cell (p:=(Q 10 15 Y)) ZR).trans ZN) (lj ZR z.size));have E:=ae (λV (z:Below w.heap.size w V)=>qM (s.extract 17 s.size) V (by unfold maxLen;omega) (hL.aa z ly) (H.aa z H.1));have O:=ae (show ∀r,iO s k r ↔ _ from λr=>Iff.rfl);unfold eA at E;clear hL H ZN;by_cases g:s.extract 0 17=⟨(eI (s.extract 17 s.size) k).toArray⟩
 ·have D:gj s k:=⟨h,P,g⟩
  have ZP:=ae (λr (x:jp (s.extract 17 s.size).data.toList r)=>(show iO s k r from⟨λ_=>x,λy=>absurd D y⟩));rw[<-g] at SO;clear g D O;unfold eB;go_enter func25,ntmps25;go_upto_region 1 with fail;generalize A w (J #[Z Y 0 0] 37)=W at j m ⊢;have ZQ:=m.lt;refine wp_region_held_drew (S:=λ_=>True) (by kernel_rfl) trivial λ_=>?_;refine aK (i:=0) (v:=?_) rfl (by kernel_rfl) (by kernel_rfl) (by kernel_rfl) (λ_ _ _ h=>h) (by rfl) ?_ ?_;rotate_left
  ·(intro b;go_simp)
   (try with_reducible rfl)
  (try simp only[Act.put,nzL])
  refine aK (i:=1) (v:=?_) rfl (by kernel_rfl) (by kernel_rfl) (by kernel_rfl) (λ_ _ _ h=>h) (by rfl) ?_ ?_;rotate_left
  ·(intro b;go_simp)
   (try with_reducible rfl)
  (try simp only[Act.put,nzL])
  refine aK (i:=2) (v:=ZD ZA) rfl (by kernel_rfl) (by kernel_rfl) (by kernel_rfl) (λ_ _ _ h=>h) (by rfl) ?_ ?_;{(intro b;go_simp)}
  (try simp only[Act.put,nzL])
  refine aK (i:=3) (v:=?_) rfl (by kernel_rfl) (by kernel_rfl) (by kernel_rfl) (λ_ _ _ h=>h) (by rfl) ?_ ?_;rotate_left
  ·(intro b;go_simp)
   (try with_reducible rfl)
  (try simp only[Act.put,nzL])
  refine aK (i:=4) (v:=?_) rfl (by kernel_rfl) (by kernel_rfl) (by kernel_rfl) (λ_ _ _ h=>h) (by rfl) ?_ ?_;rotate_left
  ·(intro b;go_simp)
   (try with_reducible rfl)
  (try simp only[Act.put,nzL])
  refine aK (i:=5) (v:=?_) rfl (by kernel_rfl) (by kernel_rfl) (by kernel_rfl) (λ_ _ _ h=>h) (by rfl) ?_ ?_;rotate_left
  ·(intro b;go_simp)
   (try with_reducible rfl)
  (try simp only[Act.put,nzL])
  refine aK (i:=6) (v:=ZD ZA) rfl (by kernel_rfl) (by kernel_rfl) (by kernel_rfl) (λ_ _ _ h=>h) (by rfl) ?_ ?_;{(intro b;go_simp)}
  (try simp only[Act.put,nzL])
  refine aK (i:=7) (v:=ZD ZA) rfl (by kernel_rfl) (by kernel_rfl) (by kernel_rfl) (λ_ _ _ h=>h) (by rfl) ?_ ?_;{(intro b;go_simp)}
  (try simp only[Act.put,nzL])
  refine aK (i:=8) (v:=?_) rfl (by kernel_rfl) (by kernel_rfl) (by kernel_rfl) (λ_ _ _ h=>h) (by rfl) ?_ ?_;rotate_left
  ·(intro b;go_simp)
   (try with_reducible rfl)
  (try simp only[Act.put,nzL])
  refine aK (i:=9) (v:=?_) rfl (by kernel_rfl) (by kernel_rfl) (by kernel_rfl) (λ_ _ _ h=>h) (by rfl) ?_ ?_;rotate_left
  ·(intro b;go_simp)
   (try with_reducible rfl)
  (try simp only[Act.put,nzL])
  refine aK (i:=10) (v:=?_) rfl (by kernel_rfl) (by kernel_rfl) (by kernel_rfl) (λ_ _ _ h=>h) (by rfl) ?_ ?_;rotate_left
  ·(intro b;go_simp)
   (try with_reducible rfl)
  (try simp only[Act.put,nzL])
  refine aK (i:=11) (v:=?_) rfl (by kernel_rfl) (by kernel_rfl) (by kernel_rfl) (λ_ _ _ h=>h) (by rfl) ?_ ?_;rotate_left
  ·(intro b;go_simp)
   (try with_reducible rfl)
  (try simp only[Act.put,nzL])
  refine aK (i:=12) (v:=?_) rfl (by kernel_rfl) (by kernel_rfl) (by kernel_rfl) (λ_ _ _ h=>h) (by rfl) ?_ ?_;rotate_left
  ·(intro b;go_simp)
   (try with_reducible rfl)
  (try simp only[Act.put,nzL])
  refine aK (i:=13) (v:=?_) rfl (by kernel_rfl) (by kernel_rfl) (by kernel_rfl) (λ_ _ _ h=>h) (by rfl) ?_ ?_;rotate_left
  ·(intro b;go_simp)
   (try with_reducible rfl)
  (try simp only[Act.put,nzL])
  refine tp (i:=14) rfl (by kernel_rfl) λK q=>?_;go_simp;go_at_call 75;refine(SO _ (by first|exact j|exact j.drew)).mono ?_;rintro e n ⟨rfl,f⟩;have o:Hid (Below W.heap.size W n):=⟨f.os,f.tape,f.output,f.size,f.block⟩
  clear f;refine q _ _ ?_;clear q K
  (try simp only[Act.put,nzL])
  refine aK (i:=15) (v:=ZD ZA) rfl (by kernel_rfl) (by kernel_rfl) (by kernel_rfl) (λ_ _ _ h=>h) (by rfl) ?_ ?_;{(intro b;go_simp)}
  (try simp only[Act.put,nzL])
  refine aK (i:=16) (v:=ZD ZA) rfl (by kernel_rfl) (by kernel_rfl) (by kernel_rfl) (λ_ _ _ h=>h) (by rfl) ?_ ?_;{(intro b;go_simp)}
  (try simp only[Act.put,nzL])
  refine wpAnyH_done (by kernel_rfl) ?_ _;have u:=ae (j.trans (o.mono j.size));have l:=ae (m.aa o ZQ);go_wp2_with fail;refine(E n u).mono ?_;rintro e w3 ⟨r,a,c,R,B,rfl,C,hM,L,t⟩;have IR:=ae (ZP r B);have X:=ae (u.trans (t.mono u.size));have ZS:=ae (l.aa t l.lt);have c0:=ZS.c0;have f0:=ZS.fz 0;have l3:=ZS.lt;have ZO:w.heap.size<n.heap.size:=l.lt;have G:=ae (ZS.set (Z a R.length c));have F:=ae (X.setCell (p:=(Q w.heap.size 0 Y)) ly (Z a R.length c));have ZJ:=ae ((C.set (p:=(Q w.heap.size 0 Y)) (e:=0) (.inl ZO) (Z a R.length c)).mono (show w.heap.size<=n.heap.size by omega));have HM:=ae hM;have ZL:=ae L;clear B C hM L t;go_wp2;try simp only[Exit.inBlock,Exit.then]
  refine bp (dl rfl _ _ w.heap.size _ rfl G) rfl ?_;exact⟨r,a,c,R,IR,rfl,ZJ,HM,ZL,F⟩
 ·have ZP:Hid (iO s k Y):=og λx=>g x.2.2;have e1:=pG g;have e2:=wB g;generalize (⟨(eI (s.extract 17 s.size) k).toArray⟩:ByteArray)=ZM at SO g e1 e2 ⊢;clear O E;go_enter func25,ntmps25;go_upto_region 1 with fail;generalize A w (J #[Z Y 0 0] 37)=W at j m ⊢;have ZQ:=m.lt;refine wp_region_held_drew (S:=λ_=>True) (by kernel_rfl) trivial λ_=>?_;refine aK (i:=0) (v:=?_) rfl (by kernel_rfl) (by kernel_rfl) (by kernel_rfl) (λ_ _ _ h=>h) (by rfl) ?_ ?_;rotate_left
  ·(intro b;go_simp)
   (try with_reducible rfl)
  (try simp only[Act.put,nzL])
  refine aK (i:=1) (v:=?_) rfl (by kernel_rfl) (by kernel_rfl) (by kernel_rfl) (λ_ _ _ h=>h) (by rfl) ?_ ?_;rotate_left
  ·(intro b;go_simp)
   (try with_reducible rfl)
  (try simp only[Act.put,nzL])
  refine aK (i:=2) (v:=ZD ZA) rfl (by kernel_rfl) (by kernel_rfl) (by kernel_rfl) (λ_ _ _ h=>h) (by rfl) ?_ ?_;{(intro b;go_simp)}
  (try simp only[Act.put,nzL])
  refine aK (i:=3) (v:=?_) rfl (by kernel_rfl) (by kernel_rfl) (by kernel_rfl) (λ_ _ _ h=>h) (by rfl) ?_ ?_;rotate_left
  ·(intro b;go_simp)
   (try with_reducible rfl)
  (try simp only[Act.put,nzL])
  refine aK (i:=4) (v:=?_) rfl (by kernel_rfl) (by kernel_rfl) (by kernel_rfl) (λ_ _ _ h=>h) (by rfl) ?_ ?_;rotate_left
  ·(intro b;go_simp)
   (try with_reducible rfl)
  (try simp only[Act.put,nzL])
  refine aK (i:=5) (v:=?_) rfl (by kernel_rfl) (by kernel_rfl) (by kernel_rfl) (λ_ _ _ h=>h) (by rfl) ?_ ?_;rotate_left
  ·(intro b;go_simp)
   (try with_reducible rfl)
  (try simp only[Act.put,nzL])
  refine aK (i:=6) (v:=ZD ZA) rfl (by kernel_rfl) (by kernel_rfl) (by kernel_rfl) (λ_ _ _ h=>h) (by rfl) ?_ ?_;{(intro b;go_simp)}
  (try simp only[Act.put,nzL])
  refine aK (i:=7) (v:=ZD ZA) rfl (by kernel_rfl) (by kernel_rfl) (by kernel_rfl) (λ_ _ _ h=>h) (by rfl) ?_ ?_;{(intro b;go_simp)}
  (try simp only[Act.put,nzL])
  refine aK (i:=8) (v:=?_) rfl (by kernel_rfl) (by kernel_rfl) (by kernel_rfl) (λ_ _ _ h=>h) (by rfl) ?_ ?_;rotate_left
  ·(intro b;go_simp)
   (try with_reducible rfl)
  (try simp only[Act.put,nzL])
  refine aK (i:=9) (v:=?_) rfl (by kernel_rfl) (by kernel_rfl) (by kernel_rfl) (λ_ _ _ h=>h) (by rfl) ?_ ?_;rotate_left
  ·(intro b;go_simp)
   (try with_reducible rfl)
  (try simp only[Act.put,nzL])
  refine aK (i:=10) (v:=?_) rfl (by kernel_rfl) (by kernel_rfl) (by kernel_rfl) (λ_ _ _ h=>h) (by rfl) ?_ ?_;rotate_left
  ·(intro b;go_simp)
   (try with_reducible rfl)
  (try simp only[Act.put,nzL])
  refine aK (i:=11) (v:=?_) rfl (by kernel_rfl) (by kernel_rfl) (by kernel_rfl) (λ_ _ _ h=>h) (by rfl) ?_ ?_;rotate_left
  ·(intro b;go_simp)
   (try with_reducible rfl)
  (try simp only[Act.put,nzL])
  refine aK (i:=12) (v:=?_) rfl (by kernel_rfl) (by kernel_rfl) (by kernel_rfl) (λ_ _ _ h=>h) (by rfl) ?_ ?_;rotate_left
  ·(intro b;go_simp)
   (try with_reducible rfl)
  (try simp only[Act.put,nzL])
  refine aK (i:=13) (v:=?_) rfl (by kernel_rfl) (by kernel_rfl) (by kernel_rfl) (λ_ _ _ h=>h) (by rfl) ?_ ?_;rotate_left
  ·(intro b;go_simp)
   (try with_reducible rfl)
  (try simp only[Act.put,nzL])
  refine tp (i:=14) rfl (by kernel_rfl) λK q=>?_;go_simp;go_at_call 75;refine(SO _ (by first|exact j|exact j.drew)).mono ?_;rintro e n ⟨rfl,f⟩;have o:Hid (Below W.heap.size W n):=⟨f.os,f.tape,f.output,f.size,f.block⟩
  clear f;refine q _ _ ?_;clear q K
  (try simp only[Act.put,nzL])
  refine aK (i:=15) (v:=ZD ZG) rfl (by kernel_rfl) (by kernel_rfl) (by kernel_rfl) (λ_ _ _ h=>h) (by rfl) ?_ ?_;{(intro b;go_simp)}
  (try simp only[Act.put,nzL])
  refine aK (i:=16) (v:=ZD ZG) rfl (by kernel_rfl) (by kernel_rfl) (by kernel_rfl) (λ_ _ _ h=>h) (by rfl) ?_ ?_;{(intro b;go_simp)}
  (try simp only[Act.put,nzL])
  refine wpAnyH_done (by kernel_rfl) ?_ _;have u:=ae (j.trans (o.mono j.size));have l:=ae (m.aa o ZQ);have c0:=l.c0;have f0:=l.fz 0;have l2:=l.lt;have G:=ae (l.set (Z Y 0 0));have F:=ae (u.setCell (p:=(Q w.heap.size 0 Y)) ly (Z Y 0 0));go_wp2;try simp only[Exit.inBlock,Exit.then]
  refine bp (dl rfl _ _ w.heap.size _ rfl G) rfl ?_;unfold eB;exact⟨Y,Y,0,[],ZP,rfl,cA _ _,rfl,SzD.nil _,F⟩
theorem lH (s k:ByteArray)(w:M)(i:s.size<=1048576)(hk:k.size<=1048576)(hL:Lay w)(g:EV w 3)(b:Deb w)(c:10<w.heap.size):Calls Pg 25 #[U s,U k] w λe f=>eB w s k e f:=by
 by_cases h:s.size<17;{exact pH s k w h};by_cases h2:60<k.size;{exact rT s k w (by omega) h2 (by unfold maxLen;omega) (by unfold maxLen;omega)};{exact tV s k w (by omega) i (by omega) hL g b c}
def wD (w:M)(S:List UInt8)(e:Ending)(b:M):Prop :=
 Below w.heap.size w b/\∃a c R,e=ZF (ZH #[Z a R.length c])/\DRow b (w.heap.size+2) (Z a R.length c) R/\SzD 300001 (R.map (·.1))/\∀E,bB [] (tL (aL S)) E->R.map (·.1)=E
theorem xJ (s:ByteArray)(w:M)(r:s.size<=maxLen)(hn:s.data.toList=[]∨300000<s.size):Calls Pg 84 #[U s] w λe o=>eA w s.data.toList e o:=by
 have j:Hid (jp s.data.toList Y):=gL λf n h=>by
  rcases hn with h1|h1;{exact h1};{have:=lY h;rw[aO] at this;omega}
 have c:=ae ((q9 w).alloc ly (J #[Z Y 0 0] 37));have b:Hid (AcR (A w (J #[Z Y 0 0] 37)) w.heap.size (Z Y 0 0)):=nL w _;unfold maxLen at r;unfold eA;generalize i:s.data.toList=S at j hn ⊢;rcases hn with hn|hn
 ·have m:s=⟨#[]⟩:=by
   refine ON (QZ ?_);rw[i,hn]
  subst m;clear i;go_enter func84,ntmps84;go_upto_region 1 with fail;generalize A w (J #[Z Y 0 0] 37)=W at c b ⊢;have c0:=b.c0;have f0:=b.fz 0;have q:=b.lt;have g:=ae (b.set (Z Y 0 0));have l:=ae (c.setCell (p:=(Q w.heap.size 0 Y)) ly (Z Y 0 0));go_wp2;try simp only[Exit.inBlock,Exit.then]
  refine bp (dl rfl _ _ w.heap.size _ rfl g) rfl ?_;exact⟨Y,Y,0,[],j,rfl,cA _ _,rfl,SzD.nil _,l⟩
 ·have hne:¬ s.toList=[]:=ja (by omega);have hp:300000<(s.size:Int):=by omega
  clear i;go_enter func84,ntmps84;go_upto_region 1 with fail;generalize A w (J #[Z Y 0 0] 37)=W at c b ⊢;have c0:=b.c0;have f0:=b.fz 0;have q:=b.lt;have g:=ae (b.set (Z Y 0 0));have l:=ae (c.setCell (p:=(Q w.heap.size 0 Y)) ly (Z Y 0 0));go_wp2;try simp only[Exit.inBlock,Exit.then]
  refine bp (dl rfl _ _ w.heap.size _ rfl g) rfl ?_;exact⟨Y,Y,0,[],j,rfl,cA _ _,rfl,SzD.nil _,l⟩
theorem wE (s:ByteArray)(w:M)(h0:0<s.size)(h3:s.size<=300000)(LR:∀V,Calls Pg 143 #[U s] V λe X=>wD V s.data.toList e X):Calls Pg 84 #[U s] w λe X=>eA w s.data.toList e X:=by
 have P:=ae LR;unfold wD at P;have B:=ae ((q9 w).alloc ly (J #[Z Y 0 0] 37));have H:Hid (AcR (A w (J #[Z Y 0 0] 37)) w.heap.size (Z Y 0 0)):=nL w _;have dg:¬ s.toList=[]:=ja (by omega);have hie:s.toList.isEmpty=ZA:=by simpa using dg
 have hp:¬ 300000<(s.size:Int):=by omega
 have K:=ae (BG s);have y:s.data.toList≠[]:=λe=>by have:=wA List.length e;rw[aO,nX] at this;omega
 unfold eA;generalize hS:s.data.toList=S at P K y ⊢;have HS:=ae hS;clear LR hS;go_enter func84,ntmps84;go_upto_region 1 with fail;generalize A w (J #[Z Y 0 0] 37)=W at B H ⊢;have O:=H.lt;go_wp2_with fail;refine(P W).mono ?_;rintro e u ⟨r,a,c,R,rfl,hD,L,hG⟩
 ·have G:=(q9 u).alloc ly (J #[Z a R.length c] 37);have ZS:=ae ((hD.aa G ly).mono (show w.heap.size+1<=W.heap.size+2 by omega));have z:=ae ((B.trans (r.mono B.size)).trans (G.mono (by have:=B.size;have:=r.size;omega)));have t:=ae (H.aa (r.trans (G.mono r.size)) O);have m:Hid (AcR (A u (J #[Z a R.length c] 37)) u.heap.size (Z a R.length c)):=nL u _;have ZO:=ae L;have HG:=ae hG;have hRl:R.length<=300001:=by have:=L.1;simpa using this
  clear G hD L hG r B H;go_upto_region 4 with fail;generalize A u (J #[Z a R.length c] 37)=ZM at ZS z t m ⊢;generalize u.heap.size=b4 at m ⊢;have c4:=m.c0;have ZK:=m.lt;by_cases D:∃f n,bG f n=S
  ·obtain⟨f,n,ZQ⟩:=D;have j:R.map (·.1)=nrm f n:=HG.out _ (nf ZQ y);have bt:n=R.length:=by rw[<-lv f n,<-j];simp
   subst bt;have ZP:SlDeed ZM a R.length f:=by have h1:=ZS.am;rw[j] at h1;exact qb h1
   have g:=nV (f:=f) (n:=R.length) (k:=300001) (by rw[<-j];exact ZO) (by omega);have o:=ij a R.length c f ZM (by omega) ZP (λi hi=>(g i hi).1) (λi hi=>(g i hi).2);rw[ZQ] at o;have ZJ:=ae (sC ZQ y (λE hE=>by rw[<-j];exact HG E hE));have es:(⟨S.toArray⟩:ByteArray)=s:=by refine ON (QZ ?_);rw[HS.out]
   rw[es] at o;have q:=ae o;have aq:=ae j;clear o ZP g ZQ es j;go_wp2_with fail;refine q.mono ?_;rintro e w3 ⟨rfl,b⟩;have D3:=ae (ZS.aa b ly);have ZL:=ae (z.trans (b.mono z.size));have l:=ae (t.aa b t.lt);have C3:=ae (m.aa b m.lt);clear b q c4 ZK ZS z t m;have c4:=C3.c0;have ZK:=C3.lt;have c0:=l.c0;have f0:=l.fz 0;have O:=l.lt;have ZN:=ae (l.set (Z a R.length c));have ZR:=ae (ZL.setCell (p:=(Q w.heap.size 0 Y)) ly (Z a R.length c));have D5:=ae ((D3.set (p:=(Q w.heap.size 0 Y)) (e:=0) (.inl (by show w.heap.size<w.heap.size+1;omega)) (Z a R.length c)).mono (show w.heap.size<=w.heap.size+1 by omega));go_wp2;try simp only[Exit.inBlock,Exit.then]
   refine bp (dl rfl _ _ w.heap.size _ rfl ZN) rfl ?_;exact⟨T (nrm f R.length),a,c,R,ZJ,rfl,D5,aq,ZO,ZR⟩
  ·have x:∀f n,bG f n≠S:=λf n h=>D ⟨f,n,h⟩;have ZJ:Hid (jp S Y):=gL λf n h=>absurd h (x f n);have g:=Bv ZO.out (by omega);have o:=ij a R.length c (dF (R.map (·.1))) ZM (by omega) ZS.am (λi hi=>(g i (by simpa using hi)).1) (λi hi=>(g i (by simpa using hi)).2);have C:=x (dF (R.map (·.1))) R.length;generalize bG (dF (R.map (·.1))) R.length=F at o C;have q:=ae o;have ne1:(F == S)=ZA:=by simpa using C
   clear o g D x;go_wp2_with fail;refine q.mono ?_;rintro e w3 ⟨rfl,b⟩;have ZL:=ae (z.trans (b.mono z.size));have l:=ae (t.aa b t.lt);clear b q c4 ZK ZS z t m;have c0:=l.c0;have f0:=l.fz 0;have O:=l.lt;have ZN:=ae (l.set (Z Y 0 0));have ZR:=ae (ZL.setCell (p:=(Q w.heap.size 0 Y)) ly (Z Y 0 0));have e1:¬ F=s.toList:=by rw[K.out];exact C
   have e2:(F == s.toList)=ZA:=by simpa using e1
   go_wp2;try simp only[Exit.inBlock,Exit.then]
   refine bp (dl rfl _ _ w.heap.size _ rfl ZN) rfl ?_;exact⟨Y,Y,0,[],ZJ,rfl,cA _ _,rfl,SzD.nil _,ZR⟩
theorem rU (s:ByteArray)(w:M)(f:s.size<=maxLen)(c:s.size<=300000->∀V,Calls Pg 143 #[U s] V λe b=>wD V s.data.toList e b):Calls Pg 84 #[U s] w λe b=>eA w s.data.toList e b:=by
 by_cases h:s.data.toList=[]∨300000<s.size;{exact xJ s w f h};{refine wE s w ?_ (by omega) (c (by omega));have h1:s.data.toList≠[]:=λe=>h (.inl e);have:=GC.2 h1;rw[aO] at this;exact this}
theorem nJ (a:Option Addr)(n cap:Nat)(f:Nat->Deed)(b:ByteArray)(w:M)(hn:(n:Int)<=1048576)(hk:(b.size:Int)<=1048576)(y:SlDeed w a n f)(t:(n:Int)<=cap)(l:∀i,i<n->cV (f i))(m:Tab w)(q:TabW w)(D:Pow w)(z:Deb w)(u:10<w.heap.size):Calls Pg 23 #[ZH #[Z a n cap],U b] w λe s=>e=ZF (U (df ⟨(bG f n).toArray⟩ b))/\Below w.heap.size w s:=by
 have g:=ae ((q9 w).alloc (n6 w.heap.size) (J #[Z a n cap] 37));have o:=ae (iy a n cap f (A w (J #[Z a n cap] 37)) hn (y.aa g ly) t l (m.aa g m.1) (q.aa g m.1) (D.aa g ly));have ZP:=ae z;have H:=qO f n;clear y l m q D z;obtain⟨C,F⟩:∃C:ByteArray,(⟨(bG f n).toArray⟩:ByteArray)=C:=⟨_,rfl⟩
 rw[F] at H o ⊢;clear F;by_cases hz:C.toList=[]
 ·have h:df C b=⟨#[]⟩:=by simp[df,hz]
  rw[h];clear h;go_enter func23,ntmps23;go_wp2_with fail;refine o.mono ?_;rintro e r ⟨rfl,c⟩;have j:=ae (g.trans (c.mono g.size));clear c;go_wp2;go_ret;exact⟨rfl,j⟩
 have hze:C.toList.isEmpty=ZA:=by simpa using hz
 by_cases x:60<b.size
 ·have h:df C b=⟨#[]⟩:=by simp[df,x]
  rw[h];clear h;go_enter func23,ntmps23;go_wp2_with fail;refine o.mono ?_;rintro e r ⟨rfl,c⟩;have j:=ae (g.trans (c.mono g.size));clear c;go_wp2;go_ret;exact⟨rfl,j⟩
 have hld:decide (60<(b.size:Int))=ZA:=by simp;omega
 have h:df C b=⟨(eI C b).toArray⟩++C:=by simp[df,x,hz]
 rw[h];have E:=jF C b;have ZQ:¬ 9223372036854775807<17+C.size:=by omega
 clear h;have SO:Hid (∀W:M,Deb W->10<W.heap.size->Calls Pg 75 #[U C,U b] W λe s=>e=ZF (U ⟨(eI C b).toArray⟩)/\Below W.heap.size W s):=λW h1 h2=>qN C b W (by omega) (by omega) h1 h2;generalize (⟨(eI C b).toArray⟩:ByteArray)=ZM at E SO ⊢;have ZQ:¬ 9223372036854775807<ZM.size+C.size:=by omega
 go_enter func23,ntmps23;go_wp2_with fail;refine o.mono ?_;rintro e r ⟨rfl,c⟩;have j:=ae (g.trans (c.mono g.size));have ZS:Hid (Deb r):=(j.cell (p:=(Q 10 15 Y)) u).trans ZP;have G:=lj u j.size;clear c;go_wp2_with fail;refine(SO _ ZS G).mono ?_;rintro e w2 ⟨rfl,c⟩;have B:=ae (j.trans (c.mono j.size));clear c;go_wp2;go_ret;exact⟨rfl,B⟩
theorem lI (h:a.data.toList=b.data.toList):a=b:=ON (QZ h)
theorem ext_list (s:ByteArray)(i j:Nat):(s.extract i j).data.toList=(s.data.toList.drop i).take (j - i):=by simp[PO,QE,PJ]
theorem pI (s:ByteArray):(s.extract 17 s.size).data.toList=s.data.toList.drop 17:=by rw[ext_list];refine IU ?_;rw[LK,aO];exact n6 _
theorem wF (s:ByteArray):(s.extract 0 17).data.toList=s.data.toList.take 17:=by rw[ext_list];rfl
theorem pJ (a b:ByteArray):(a++b).data.toList=a.data.toList++b.data.toList:=by rw[ByteArray.data_append,Array.toList_append]
theorem pK{k:ByteArray}(h:17<=s.size)(i:¬ (s.extract 17 s.size).toList=[]):df (s.extract 17 s.size) k=s ↔ gj s k:=by
 have b:=jF (s.extract 17 s.size) k;have c:(eI (s.extract 17 s.size) k).length=17:=CV.symm.trans b;unfold df gj;rw[gM i];generalize eI (s.extract 17 s.size) k=ZM at b c;by_cases f:60<k.size;{rw[p6 f];constructor;{intro e;rw[<-e] at h;exact absurd h (by decide)};{intro e;omega}};{rw[gM f];constructor;{intro e;refine⟨h,by omega,lI ?_⟩;have g:=wA (λx=>x.data.toList) e;simp only[pJ] at g;rw[wF,<-g];have:(⟨ZM.toArray⟩:ByteArray).data.toList=ZM:=rfl;rw[this,List.take_left' c]};{rintro⟨_,_,e⟩;rw[<-e];refine lI ?_;rw[pJ,wF,pI,PQ]}}
theorem pL (s k:ByteArray)(w:M)(h:s.size<18):Calls Pg 28 #[U s,U k] w λe i=>eB w s k e i:=by
 have j:Hid (iO s k Y):=by refine⟨λx=>gL λf n _=>?_,λ_=>rfl⟩;rw[pI];exact VL (by rw[aO];omega)
 have c:=ae ((q9 w).alloc ly (J #[Z Y 0 0] 37));have b:Hid (AcR (A w (J #[Z Y 0 0] 37)) w.heap.size (Z Y 0 0)):=nL w _;have h1:(s.size:Int)<18:=by omega
 go_enter func28,ntmps28;go_upto_region 1 with fail;generalize A w (J #[Z Y 0 0] 37)=W at c b ⊢;have c0:=b.c0;have f0:=b.fz 0;have l0:=b.lt;have g:=ae (b.set (Z Y 0 0));have l:=ae (c.setCell (p:=(Q w.heap.size 0 Y)) ly (Z Y 0 0));go_wp2;try simp only[Exit.inBlock,Exit.then]
 refine bp (dl rfl _ _ w.heap.size _ rfl g) rfl ?_;unfold eB;exact⟨Y,Y,0,[],j,rfl,cA _ _,rfl,SzD.nil _,l⟩
theorem tW (s k:ByteArray)(w:M)(h:18<=s.size)(hs:s.size<=1048576)(hk:k.size<=1048576)(P:∀V,Calls Pg 84 #[U (s.extract 17 s.size)] V λe ZJ=>eA V (s.extract 17 s.size).data.toList e ZJ):Calls Pg 28 #[U s,U k] w λe ZJ=>eB w s k e ZJ:=by
 have ZL:=ae P;unfold eA at ZL;clear P;have E:=ae ((q9 w).alloc ly (J #[Z Y 0 0] 37));have ZP:Hid (AcR (A w (J #[Z Y 0 0] 37)) w.heap.size (Z Y 0 0)):=nL w _;have h1:¬ (s.size:Int)<18:=by omega
 have h3:(17:Int)<=(s.size:Int):=by omega
 have ZR:=pK (s:=s) (k:=k) (by omega);have dg:¬ (s.extract 17 s.size).toList=[]:=by rw[BG];intro e;have:=wA List.length e;rw[aO,ext_size s (by omega),nX] at this;omega
 have K:=ae (ZR dg);clear ZR;go_enter func28,ntmps28;go_upto_region 1 with fail;generalize A w (J #[Z Y 0 0] 37)=W at E ZP ⊢;have l0:=ZP.lt;go_wp2_with fail;refine(ZL W).mono ?_;rintro e o ⟨r,a,c,R,O,rfl,L,hM,S,y⟩;have ZQ:=(q9 o).alloc ly (J #[Z a R.length c] 37);have B:=ae ((L.aa ZQ ly).mono (show w.heap.size+1<=W.heap.size by omega));have q:=ae ((E.trans (y.mono E.size)).trans (ZQ.mono (by have:=E.size;have:=y.size;omega)));have g:=ae (ZP.aa (y.trans (ZQ.mono y.size)) l0);have j:Hid (AcR (A o (J #[Z a R.length c] 37)) o.heap.size (Z a R.length c)):=nL o _;have HZ:=ae S;have ZN:=ae O;have HM:=ae hM;have hRl:R.length<=300001:=by have:=S.1;simpa using this
 clear ZQ L S hM y E ZP ZL O;cases r with
 |none =>
  have G:Hid (iO s k Y):=⟨λ_=>ZN,λ_=>rfl⟩
  go_upto_region 4 with fail;generalize A o (J #[Z a R.length c] 37)=X at B q g j ⊢;generalize o.heap.size=b4 at j ⊢;have c0:=g.c0;have f0:=g.fz 0;have l2:=g.lt;have F:=ae (g.set (Z Y 0 0));have C:=ae (q.setCell (p:=(Q w.heap.size 0 Y)) ly (Z Y 0 0));go_wp2;try simp only[Exit.inBlock,Exit.then]
  refine bp (dl rfl _ _ w.heap.size _ rfl F) rfl ?_;unfold eB;exact⟨Y,Y,0,[],G,rfl,cA _ _,rfl,SzD.nil _,C⟩
 |some D =>
  go_upto_region 4 with fail;generalize A o (J #[Z a R.length c] 37)=X at B q g j ⊢;generalize o.heap.size=b4 at j ⊢;have c4:=j.c0;have l4:=j.lt;obtain⟨f,n,hf,hS,rfl⟩:=ZN.1 D rfl;have u:R.map (·.1)=nrm f n:=HM.out;have bt:n=R.length:=by rw[<-lv f n,<-u];simp
  subst bt;have ZO:SlDeed X a R.length f:=by have h1:=B.am;rw[u] at h1;exact qb h1
  have H:=nV (f:=f) (n:=R.length) (k:=300001) (by rw[<-u];exact HZ) (by omega);have z:=j9 a R.length c f k X (by omega) (by omega) ZO (λi hi=>(H i hi).1) (λi hi=>(H i hi).2);have es:(⟨(bG f R.length).toArray⟩:ByteArray)=s.extract 17 s.size:=by refine lI ?_;rw[hf]
  rw[es] at z;clear ZO H es hf hS;have aq:=ae u;clear u;by_cases l:gj s k
  ·have G:Hid (iO s k (T (nrm f R.length))):=⟨λ_=>ZN,λx=>absurd l x⟩
   rw[K.2 l] at z;have t:=ae z;clear z l K;go_wp2_with fail;refine t.mono ?_;rintro e w3 ⟨rfl,b⟩;have D3:=ae (B.aa b ly);have ZK:=ae (q.trans (b.mono q.size));have m:=ae (g.aa b g.lt);have C3:=ae (j.aa b j.lt);clear b t c4 l4 B q g j;have c4:=C3.c0;have l4:=C3.lt;have c0:=m.c0;have f0:=m.fz 0;have l3:=m.lt;have F:=ae (m.set (Z a R.length c));have C:=ae (ZK.setCell (p:=(Q w.heap.size 0 Y)) ly (Z a R.length c));have D5:=ae ((D3.set (p:=(Q w.heap.size 0 Y)) (e:=0) (.inl (by show w.heap.size<w.heap.size+1;omega)) (Z a R.length c)).mono (show w.heap.size<=w.heap.size+1 by omega));go_wp2;try simp only[Exit.inBlock,Exit.then]
   refine bp (dl rfl _ _ w.heap.size _ rfl F) rfl ?_;unfold eB;exact⟨T (nrm f R.length),a,c,R,G,rfl,D5,aq,HZ,C⟩
  ·have G:Hid (iO s k Y):=og l;have ZS:¬ df (s.extract 17 s.size) k=s:=λe=>l (K.1 e);have e1:=pG ZS;have e2:=wB ZS;generalize df (s.extract 17 s.size) k=ZM at z ZS e1 e2;have t:=ae z;clear z l K ZS;go_wp2_with fail;refine t.mono ?_;rintro e w3 ⟨rfl,b⟩;have ZK:=ae (q.trans (b.mono q.size));have m:=ae (g.aa b g.lt);clear b t c4 l4 B q g j;have c0:=m.c0;have f0:=m.fz 0;have l3:=m.lt;have F:=ae (m.set (Z Y 0 0));have C:=ae (ZK.setCell (p:=(Q w.heap.size 0 Y)) ly (Z Y 0 0));go_wp2;try simp only[Exit.inBlock,Exit.then]
   refine bp (dl rfl _ _ w.heap.size _ rfl F) rfl ?_;unfold eB;exact⟨Y,Y,0,[],G,rfl,cA _ _,rfl,SzD.nil _,C⟩
theorem tX (s k:ByteArray)(w:M)(g:s.size<=1048576)(c:k.size<=1048576)(f:∀V,Calls Pg 84 #[U (s.extract 17 s.size)] V λe b=>eA V (s.extract 17 s.size).data.toList e b):Calls Pg 28 #[U s,U k] w λe b=>eB w s k e b:=by
 by_cases h:s.size<18;{exact pL s k w h};{exact tW s k w (by omega) g c f}
