import Derived.Test.YtpmnbjkjpnclaaaGreatDoorOA
import Derived.Deep.RegionHeld
import Derived.Test.YtpmnbjkjpnclaaaGreatDoorRP
import Derived.Laws.Bits64b
set_option maxRecDepth 100000
set_option maxHeartbeats 4000000
open Go renaming Addr.mk->Q,Value.slice->Z,Value.string->Y,Value.int->J,Value.bool->ZD,Obj.cells->N,IntKind.i64->I,World->M,Value->ZC,Ending.returned->ZF,Proofs.Tryz.prog->Pg
open Option renaming none->U,some->T
open Bool renaming false->ZA,true->ZG
namespace Go.Proofs.YtpmnbjkjpnclaaaGreatDoor.Vp
open Tryz RowKit
variable {ZO i:Nat}{s a b:ByteArray}{l:Array Bool}{w:M}
theorem IF (w:M):Calls Pg 270 #[J I 16] w λe b=>e=ZF (ZD ZG)/\b=w:=by go_enter func270,ntmps270;go_wp2;go_ret;exact⟨rfl,rfl⟩
theorem yE (k:Nat)(h:k<16)(w:M):(Instr.index 9 (Y ⟨#[48,49,50,51,52,53,54,55,56,57,97,98,99,100,101,102,103,104,105,106,107,108,109,110,111,112,113,114,115,116,117,118,119,120,121,122]⟩) (J .u64 (k:Int))).run Pg w=.ok (J .u8 (cO k).toNat) w:=by rcases(show k=0∨k=1∨k=2∨k=3∨k=4∨k=5∨k=6∨k=7∨k=8∨k=9∨k=10∨k=11∨k=12∨k=13∨k=14∨k=15 by omega) with rfl|rfl|rfl|rfl|rfl|rfl|rfl|rfl|rfl|rfl|rfl|rfl|rfl|rfl|rfl|rfl;all_goals kernel_rfl
theorem Kb (q:Nat)(h:q<=18446744073709551615):bits BinOp.and IntKind.u64 (q:Int) 15=((q % 16:Nat):Int):=by have h1:=bits_and_u64_nat q 15 (by omega) (by omega);rw[show q &&& 15=q % 16 from Nat.and_two_pow_sub_one_eq_mod q 4] at h1;exact h1
theorem IG (g r k:Nat)(h:r+1+k=65)(V:M):(Instr.sliceAt 339 (.pointer (T (Q g 0 U))) (T (J I (r:Int))) U U).run Pg V=.ok (Z (T (Q g r U)) (k+1) (k+1)) V:=by
 have b:Pg.arrayLen 339=65:=by kernel_rfl
 have f:Pg.elem 339=5:=by kernel_rfl
 have i:Pg.underlying 339=T (.array (Pg.arrayLen 339) (Pg.elem 339)):=by kernel_rfl
 rw[run_sliceAt_array_l V 339 (Q g 0 U) i I (r:Int) (by omega) (by rw[b];omega),f,b];have c:((Q g 0 U):Addr).add (r*1)=(Q g r U):=by unfold Addr.add;split<;>simp_all
 rw[SV];simp only[SU,slicedAt,Int.toNat_natCast];rw[gM (by omega),c];have e:65 - r=k+1:=by omega
 rw[e]
theorem sZ{k r d:Nat}{cs:Array ZC}(b:r<cs.size)(c:ZO / 16 ^ k % 16=d)(h:∀j,j<k->cs[r+1+j]?=(Lib.byteCells (bR ZO k))[j]?):∀j,j<k+1->(cs.setIfInBounds r (J .u8 (cO d).toNat))[r+j]?=(Lib.byteCells (bR ZO (k+1)))[j]?:=by
 intro j hj;rw[bR,c];cases j with
 |zero=>simp[Lib.byteCells,b]
 |succ j =>have h1:=h j (by omega);rw[show r+1+j=r+(j+1) by omega] at h1;rw[Array.getElem?_setIfInBounds_ne (by omega),h1];simp[Lib.byteCells]
theorem Kc{k q:Nat}(hN:ZO<=18446744073709551615)(hk:k<=15)(b:q=ZO / 16 ^ k)(h16:16<=q):k<15:=by
 rcases PJ k 15 with h|h;{exact h}
 ·obtain rfl:k=15:=by omega
  have:q<=15:=by rw[b];omega
  omega
def Deb (w:M):Prop:=w.cell? (Q 10 15 U)=T (J .u8 4)
theorem II (w:M)(h:Deb w):Calls Pg 293 #[J .u64 16] w λe b=>e=ZF (J I 4)/\b=w:=by
 unfold Deb at h;have hq:IntKind.u64.wrap (bits BinOp.and IntKind.u64 16 (IntKind.u64.wrap (-16))*285870213051353865) / 288230376151711744=15:=by kernel_rfl
 go_enter func293,ntmps293;go_wp2;go_ret;exact⟨rfl,rfl⟩
theorem Kd (w:M)(h:Deb w):Calls Pg 271 #[J .u64 16] w λe b=>e=ZF (J I 4)/\b=w:=by have H:=ae h;clear h;go_enter func271,ntmps271;go_wp2_with fail;refine(II _ H).mono ?_;rintro e w1 ⟨rfl,rfl⟩;go_wp2;go_ret;exact⟨rfl,rfl⟩
theorem tN (ZO:Nat)(w:M)(K:ZO<=18446744073709551615)(h:Deb w)(ZJ:10<w.heap.size):Calls Pg 225 #[Z U 0 0,J .u64 (ZO:Int),J I 16,ZD ZA,ZD ZA] w λe S=>∃m:Nat,m<=16/\ZO<16 ^ m/\e=ZF (.tuple #[Z U 0 0,Y ⟨(bR ZO m).toArray⟩])/\Below w.heap.size w S:=by
 have H:=ae h;clear h;go_enter func225,ntmps225;go_wp2_with fail;have t:=ae ((q9 w).alloc ly (N zeroCells339 339));have o:Hid ((w.alloc (N zeroCells339 339)).heap[w.heap.size]?=T (N zeroCells339 339)):=nL w _;have A:Hid (Deb (w.alloc (N zeroCells339 339))):=(t.cell (p:=(Q 10 15 U)) ZJ).trans H;have x:(zeroCells339).size=65:=by kernel_rfl
 generalize zeroCells339=ZQ at t o A x ⊢;generalize w.alloc (N ZQ 339)=W at t o A ⊢;refine(IF _).mono ?_;rintro e w1 ⟨rfl,rfl⟩;go_wp2_with fail;refine(Kd _ A).mono ?_;rintro e ZP ⟨rfl,rfl⟩;go_wp2;have hwg:w.heap.size<ZP.heap.size:=(eT.1 o).1;generalize F:w.heap.size=g at o ⊢;go_loopw [1,13] (λu i wr=>∃(k q p:Nat) (b:Array ZC),p+k=65/\k<=15/\Hid (q=ZO / 16 ^ k)/\q<=18446744073709551615/\u=J .u64 q/\i=J I p/\Hid (wr.heap[g]?=T (N b 339))/\b.size=65/\Hid (∀j,j<k->b[p+j]?=(Lib.byteCells (bR ZO k))[j]?)/\Hid (Below g ZP wr)) (λu _ _=>(intOf u).toNat);case atStart=>exact⟨0,ZO,65,ZQ,by omega,by omega,by show _=_;simp,K,rfl,rfl,o,x,λj c=>absurd c (PK _),dB _ _⟩
 case round =>
  obtain⟨k,q,p,b,hpk,V,s,L,rfl,rfl,f,D,O,ZM⟩:=hrel;obtain⟨r,rfl⟩:∃r,p=r+1:=⟨p - 1,by omega⟩
  have hgz:g<wr.heap.size:=(eT.1 f).1;have cr:wr.cell? (Q g r U)=T b[r]:=by simp[World.cell?,f.out,show r<b.size by omega]
  have fr:wr.frozen? (Q g r U)=ZA:=by simp[World.frozen?,f.out]
  have hp1:((r+1:Nat):Int) - 1=r:=by omega
  by_cases hge:(16:Int)<=q
  ·have hk15:=Kc K V s.out (by omega);obtain⟨d,B⟩:∃d:Nat,d=q % 16:=⟨_,rfl⟩
   obtain⟨e,E⟩:∃e:Nat,e=q / 16:=⟨_,rfl⟩
   have ZK:=Kb q L;rw[<-B] at ZK;have R:=yE d (by omega);have hd1:(q:Int) / 16=(e:Int):=by omega
   have ZL:Hid (e=ZO / 16 ^ (k+1)):=by show _=_;rw[E,s.out,Nat.div_div_eq_div_mul,Nat.pow_succ]
   have heb:e<q:=by omega
   have n:=ae (sZ (ZO:=ZO) (k:=k) (r:=r) (d:=d) (cs:=b) (by omega) (by rw[<-s.out,<-B]) O.out);clear B E;go_wp2;exact⟨⟨k+1,e,r,b.setIfInBounds r (J .u8 (cO d).toNat),by omega,by omega,ZL,by omega,rfl,rfl,Lib.heap_setCell_same f _,by simp[D],n.out,ZM.setCell (p:=(Q g r U)) ly _⟩,by simp[intOf];omega⟩
  ·have l:q<16:=by omega
   have R:=yE q l;have hsl:=IG g r k (by omega);have n:=ae (sZ (ZO:=ZO) (k:=k) (r:=r) (d:=q) (cs:=b) (by omega) (by rw[<-s.out];omega) O);have hcv:(convert 22 9 (Z (T (Q g r U)) (k+1) (k+1))).run Pg (wr.setCell (Q g r U) (J .u8 (cO q).toNat))=.ok (Y ⟨(bR ZO (k+1)).toArray⟩) (wr.setCell (Q g r U) (J .u8 (cO q).toNat)):=by
    have h1:=PR (P:=Pg) (wr.setCell (Q g r U) (J .u8 (cO q).toNat)) 22 9 5 (Q g r U) (k+1) (bR ZO (k+1)) IS L3 F3 (λj c=>by
     have ZN:j<k+1:=by rw[fJ] at c;exact c
     have h2:=n.out j ZN;have C:((Q g r U):Addr).add j=(Q g (r+j) U):=by unfold Addr.add;split<;>simp_all
     rw[C];have h3:=Lib.heap_setCell_same (i:=r) f (J .u8 (cO q).toNat);simp only[World.cell?,h3];rw[h2]
     simp[Lib.byteCells,c])
    rw[fJ] at h1;exact h1
   have X:=ae (ZM.setCell (p:=(Q g r U)) ly (J .u8 (cO q).toNat));have z:Hid (ZO<16 ^ (k+1)):=by
    show ZO<16 ^ (k+1);have h1:ZO / 16 ^ k<16:=by rw[<-s.out];exact l
    rw[Nat.pow_succ,Nat.mul_comm];exact(Nat.div_lt_iff_lt_mul (Nat.pow_pos (by omega))).1 h1
   have y:=t.out;rw[F] at y;have G:=ae (y.trans X);clear y;go_wp2;go_ret2;exact⟨k+1,by omega,z,rfl,G⟩
theorem ti {ZO m:Nat}(h:ZO<16 ^ m):∀c,bR ZO (m+c)=Lib.repeatL [48] c++bR ZO m
 |0=>by simp[Lib.repeatL]
 |c+1=>by have b:ZO<16 ^ (m+c):=lj h (Nat.pow_le_pow_right (by omega) (by omega));have e:ZO / 16 ^ (m+c)=0:=Nat.div_eq_of_lt b;rw[show m+(c+1)=m+c+1 by omega,bR,e,ti h c];rfl
def eG (form b:ByteArray):List UInt8:=bR (sumTo (b++⟨#[10]⟩++form) (b++⟨#[10]⟩++form).size).toNat 16++[10]
theorem Av (c:Nat):(Lib.repeatL [48] c).length=c:=by
 induction c with
 |zero=>rfl
 |succ c b=>simp[Lib.repeatL,b]
theorem tO (ZO:Nat)(w:M)(i:ZO<=18446744073709551615)(h:Deb w)(g:10<w.heap.size):Calls Pg 185 #[J .u64 (ZO:Int),J I 16] w λe f=>∃m:Nat,m<=16/\ZO<16 ^ m/\e=ZF (Y ⟨(bR ZO m).toArray⟩)/\Below w.heap.size w f:=by have H:=ae h;clear h;go_enter func185,ntmps185;go_wp2_with fail;refine(tN ZO _ i H g).mono ?_;rintro e w1 ⟨m,n,b,rfl,c⟩;have j:=ae c;have l:=ae b;clear c b;go_wp2;go_ret;exact⟨m,n,l,rfl,j⟩
theorem tP (ZO:Nat)(w:M)(i:ZO<=18446744073709551615)(h:Deb w)(g:10<w.heap.size):Calls Pg 133 #[J .u64 (ZO:Int),J I 16] w λe f=>∃m:Nat,m<=16/\ZO<16 ^ m/\e=ZF (Y ⟨(bR ZO m).toArray⟩)/\Below w.heap.size w f:=by have H:=ae h;clear h;go_enter func133,ntmps133;go_wp2_with fail;refine(tO ZO _ i H g).mono ?_;rintro e w1 ⟨m,n,b,rfl,c⟩;have j:=ae c;have l:=ae b;clear c b;go_wp2;go_ret;exact⟨m,n,l,rfl,j⟩
theorem qK (form b:ByteArray)(w:M)(hf:form.size<=1048576)(hk:b.size<=60)(h:Deb w)(A:10<w.heap.size):Calls Pg 75 #[Y form,Y b] w λe y=>e=ZF (Y ⟨(eG form b).toArray⟩)/\Below w.heap.size w y:=by
 have H:=ae h;clear h;obtain⟨ZL,j⟩:∃ZL,ZL=eG form b:=⟨_,rfl⟩
 rw[<-j];have hA1:¬ 9223372036854775807<b.size+1:=by omega
 have hA2:¬ 9223372036854775807<b.size+1+form.size:=by omega
 have z:(b++⟨#[10]⟩++form).size<=1048637:=by simp only[IH];have:(⟨#[10]⟩:ByteArray).size=1:=rfl;omega
 have SM:=ae (GI (b++⟨#[10]⟩++form) w (by omega));obtain⟨ZO,l⟩:∃ZO:Nat,sumTo (b++⟨#[10]⟩++form) (b++⟨#[10]⟩++form).size=(ZO:Int):=⟨_,(UL (lK _ _).1).symm⟩
 have s:ZO<=18446744073709551615:=by have:=(lK (b++⟨#[10]⟩++form) (b++⟨#[10]⟩++form).size).2;omega
 have n:Hid (ZL=bR ZO 16++[10]):=by show _=_;rw[j];unfold eG;rw[l];rfl
 rw[l] at SM;clear l z j;go_enter func75,ntmps75;go_wp2_with fail;refine SM.mono ?_;rintro e w1 ⟨rfl,rfl⟩;go_wp2_with fail;refine(tP ZO _ s H A).mono ?_;rintro e w2 ⟨m,hm,g,rfl,u⟩;have r:=ae u;have q:=fJ ZO m;obtain⟨c,B⟩:∃c,m+c=16:=⟨16 - m,by omega⟩
 have i:Hid (ZL=Lib.repeatL [48] c++bR ZO m++[10]):=by show _=_;rw[n.out,<-B,ti g c]
 have o:=Av c;clear u g n SM;generalize bR ZO m=D at q i ⊢;subst q;have hcm:(16:Int) - (D.length:Int)=(c:Int):=by omega
 go_wp2_with fail;refine(Tryz.strings_Repeat ⟨#[48]⟩ c _ (by omega) (by have x:(⟨#[48]⟩:ByteArray).size=1:=rfl;rw[x];omega)).mono ?_;rintro e w3 ⟨rfl,f⟩;have t:=ae (r.trans (f.mono r.size));clear f;have p:(⟨#[48]⟩:ByteArray).data.toList=[48]:=rfl;rw[p];generalize Lib.repeatL [48] c=Rp at o i ⊢;go_wp2;go_ret;refine⟨fO ?_,t⟩;rw[i.out];apply N5;simp
theorem Gi (D:List UInt8):(⟨(D++[10]).toArray⟩:ByteArray)=⟨D.toArray⟩++⟨#[10]⟩:=by apply N5;simp
def df (C b:ByteArray):ByteArray:=if C.toList=[] then ⟨#[]⟩ else if 60<b.size then ⟨#[]⟩ else ⟨(eG C b).toArray⟩++C
theorem qL (f:Nat->Deed)(n:Nat):(⟨(bF f n).toArray⟩:ByteArray).size<=300000:=by
 show(bF f n).toArray.size<=300000;simp only[CV];unfold bF;split;{split;{assumption};{simp}};{simp}
theorem jE (C b:ByteArray):(⟨(eG C b).toArray⟩:ByteArray).size=17:=by show(eG C b).toArray.size=17;simp only[CV,eG,cM,fJ,eL,nX]
theorem tQ (s:ByteArray):(⟨(bR (sumTo s s.size).toNat 16).toArray⟩:ByteArray).size=16:=by have h:=fJ (sumTo s s.size).toNat 16;generalize bR (sumTo s s.size).toNat 16=D at h ⊢;show D.toArray.size=16;rw[CV,h]
theorem tR (C b:ByteArray)(hz:¬ C.toList=[])(c:¬ 60<b.size):df C b=⟨(bR (sumTo (b++⟨#[10]⟩++C) (b++⟨#[10]⟩++C).size).toNat 16).toArray⟩++⟨#[10]⟩++C:=by unfold df;rw[gM hz,gM c];unfold eG;rw[Gi]
theorem xF (C b:ByteArray)(hl:¬ 60<b.size)(hs:C.size<=300000):((b++⟨#[10]⟩++C).size:Int)<=1048576:=by have c:(⟨#[10]⟩:ByteArray).size=1:=rfl;rw[IH,IH,c];omega
theorem Gj (C b:ByteArray)(hz:¬ C.toList=[])(c:¬ 60<b.size)(g:C.size<=300000):∃ZL:ByteArray,ZL.size=16/\df C b=ZL++⟨#[10]⟩++C/\∀W:M,Calls Pg 77 #[Y (b++⟨#[10]⟩++C)] W λe f=>e=ZF (Y ZL)/\Below W.heap.size W f :=
 ⟨_,tQ _,tR C b hz c,λW=>um _ W (xF C b c g)⟩
theorem j8 (a:Option Addr)(n cap:Nat)(f:Nat->Deed)(b:ByteArray)(w:M)(hn:(n:Int)<=1048576)(hk:(b.size:Int)<=1048576)(q:SlDeed w a n f)(l:∀i,i<n->cV (f i))(o:∀i,i<n->fj (f i)):Calls Pg 24 #[.agg #[Z a n cap],Y b] w λe y=>e=ZF (Y (df ⟨(bF f n).toArray⟩ b))/\Below w.heap.size w y:=by
 have h:=ae ((q9 w).alloc (n6 w.heap.size) (N #[Z a n cap] 37));have m:=ae (ig a n cap f (w.alloc (N #[Z a n cap] 37)) hn (q.aa h ly) l o);have t:=qL f n;clear q l o;obtain⟨C,r⟩:∃C:ByteArray,(⟨(bF f n).toArray⟩:ByteArray)=C:=⟨_,rfl⟩
 rw[r] at t m ⊢;clear r;by_cases hz:C.toList=[]
 ·have g:df C b=⟨#[]⟩:=by simp[df,hz]
  rw[g];clear g;go_enter func24,ntmps24;go_wp2_with fail;refine m.mono ?_;rintro e x ⟨rfl,c⟩;have j:=ae (h.trans (c.mono h.size));clear c;go_wp2;go_ret;exact⟨rfl,j⟩
 have hze:C.toList.isEmpty=ZA:=by simpa using hz
 by_cases s:60<b.size
 ·have g:df C b=⟨#[]⟩:=by simp[df,s]
  rw[g];clear g;go_enter func24,ntmps24;go_wp2_with fail;refine m.mono ?_;rintro e x ⟨rfl,c⟩;have j:=ae (h.trans (c.mono h.size));clear c;go_wp2;go_ret;exact⟨rfl,j⟩
 have hld:decide (60<(b.size:Int))=ZA:=by simp;omega
 obtain⟨ZL,h16,g,p⟩:=Gj C b hz s t;rw[g];have z:=ae p;clear g p;have hA:¬ 9223372036854775807<ZL.size+1:=by omega
 have hA1:¬ 9223372036854775807<ZL.size+1+C.size:=by omega
 have hA2:¬ 9223372036854775807<b.size+1:=by omega
 have hA3:¬ 9223372036854775807<b.size+1+C.size:=by omega
 go_enter func24,ntmps24;go_wp2_with fail;refine m.mono ?_;rintro e x ⟨rfl,c⟩;have j:=ae (h.trans (c.mono h.size));clear c;go_wp2_with fail;refine(z _).mono ?_;rintro e w2 ⟨rfl,c⟩;have u:=ae (j.trans (c.mono j.size));clear c;go_wp2;go_ret;exact⟨rfl,u⟩
open Ca
def fZ (s k:ByteArray):Prop:=17<=s.size/\k.size<=60/\s.extract 0 17=⟨(eG (s.extract 17 s.size) k).toArray⟩
def iM (s k:ByteArray)(r:Option (List Deed)):Prop:=(fZ s k->jo (s.extract 17 s.size).data.toList r)/\(¬ fZ s k->r=U)
theorem Gk{k:ByteArray}{r c:Option (List Deed)}(h:iM s k r)(f:iM s k c):r=c:=by
 by_cases b:fZ s k;{exact Eo (h.1 b) (f.1 b)};{rw[h.2 b,f.2 b]}
theorem nY{k:ByteArray}(h:¬ fZ s k):iM s k U:=⟨λx=>absurd x h,λ_=>rfl⟩
def eA (w:M)(s k:ByteArray)(e:Ending)(b:M):Prop :=
 ∃(r:Option (List Deed)) (a:Option Addr) (c:Nat) (R:List DR),iM s k r/\e=ZF (.tuple #[.agg #[Z a R.length c],ZD r.isSome])/\DRow b w.heap.size (Z a R.length c) R/\R.map (·.1)=r.getD []/\SzD 300001 (R.map (·.1))/\Below w.heap.size w b
theorem ext_size (s:ByteArray)(h:17<=s.size):(s.extract 17 s.size).size=s.size - 17:=by rw[RQ];omega
theorem pC (h:¬ a=b):¬ a.toList=b.toList:=λe=>h (by
 rw[BG,BG] at e
 exact N5 (QS e))
theorem wu (h:¬ a=b):(a.toList == b.toList)=ZA:=by simpa using pC h
section
variable {P:Program}{ops:Array Oper}{ZM:Exit->Act->M->Prop}{md:Region.Mode}
theorem aJ{b:Oper}{v:ZC}{k:Nat}{a:Act}(hi:ops.toList[i]?=T b)(n:Region.noSelect ops=ZG)(f:Region.free md ops l i=ZG)(g:(Region.ready md ops l).contains i=ZG)
  (m:∀c a w,ZM (.panic c) (a.put b.dst v) w->ZM (.panic c) a w) (o:Region.wanted b (yielded ops a.tmps)=ZG) (j:∀w,(execOp a.eval b).run P w=.ok (.value v) w)
  (h:wpAnyH P md ops ZM (λ_=>True) k (l.setIfInBounds i ZG) (a.put b.dst v) w):wpAnyH P md ops ZM (λ_=>True) (k+1) l a w:=by
 rw[LY] at hi;exact wpAnyH_take hi n f g m (.inl ⟨o,λw _=>j w⟩) trivial h
theorem tj{o:Oper}{k:Nat}{a:Act}(c:ops.toList[i]?=T o)(f:Region.ready md ops l=[i])
  (h:∀b:Act->M->Prop,Shut (∀a w,wpAnyH P md ops ZM (λ_=>True) k (l.setIfInBounds i ZG) a w->b a w)->if Region.wanted o (yielded ops a.tmps)=ZG then Oper.wp P o a w b ZM else b (a.put o.dst undef) w) :
  wpAnyH P md ops ZM (λ_=>True) (k+1) l a w:=by
 rw[LY] at c;exact wpAnyH_ready f (UE _ _) (AllReadyH.cons c (λb g=>h b (λa w j=>g a w trivial (λ_=>j))) AllReadyH.nil)
end
theorem pD (s k:ByteArray)(w:M)(h:s.size<17):Calls Pg 25 #[Y s,Y k] w λe l=>eA w s k e l:=by
 have n:Hid (iM s k U):=nY λx=>by have:=x.1;omega
 have i:=ae ((q9 w).alloc ly (N #[Z U 0 0] 37));have f:Hid (AcR (w.alloc (N #[Z U 0 0] 37)) w.heap.size (Z U 0 0)):=nL w _;have h1:(s.size:Int)<17:=by omega
 unfold eA;go_enter func25,ntmps25;go_upto_region 1 with fail;generalize w.alloc (N #[Z U 0 0] 37)=W at i f ⊢;have c:=f.lt;go_quiet (fail);have g:=BM (q9 W) nq;have b:=ae (f.aa g c);have j:=ae (i.trans (g.mono i.size));clear g c;generalize W.drewN nq=V at b j ⊢;have c0:=b.c0;have f0:=b.fz 0;have c:=b.lt;have o:=ae (b.set (Z U 0 0));have m:=ae (j.setCell (p:=(Q w.heap.size 0 U)) ly (Z U 0 0));go_wp2;try simp only[Exit.inBlock,Exit.then]
 refine bp (dl rfl _ _ w.heap.size _ rfl o) rfl ?_;exact⟨U,U,0,[],n,rfl,cA _ _,rfl,SzD.nil _,m⟩
theorem rQ (s k:ByteArray)(w:M)(h:17<=s.size)(hk:60<k.size)(l:k.size<=maxLen)(m:s.size<=maxLen):Calls Pg 25 #[Y s,Y k] w λe n=>eA w s k e n:=by
 have q:Hid (iM s k U):=nY λx=>by have:=x.2.1;omega
 have i:=ae ((q9 w).alloc ly (N #[Z U 0 0] 37));have g:Hid (AcR (w.alloc (N #[Z U 0 0] 37)) w.heap.size (Z U 0 0)):=nL w _;unfold maxLen at l m;have h1:decide ((s.size:Int)<17)=ZA:=by simp;omega
 have h2:(60:Int)<(k.size:Int):=by omega
 unfold eA;go_enter func25,ntmps25;go_upto_region 1 with fail;generalize w.alloc (N #[Z U 0 0] 37)=W at i g ⊢;have c:=g.lt;go_quiet (fail);have f:=BM (q9 W) nq;have b:=ae (g.aa f c);have j:=ae (i.trans (f.mono i.size));clear f c;generalize W.drewN nq=V at b j ⊢;have c0:=b.c0;have f0:=b.fz 0;have c:=b.lt;have r:=ae (b.set (Z U 0 0));have o:=ae (j.setCell (p:=(Q w.heap.size 0 U)) ly (Z U 0 0));go_wp2;try simp only[Exit.inBlock,Exit.then]
 refine bp (dl rfl _ _ w.heap.size _ rfl r) rfl ?_;exact⟨U,U,0,[],q,rfl,cA _ _,rfl,SzD.nil _,o⟩
theorem tS (s k:ByteArray)(w:M)(h:17<=s.size)(hs:s.size<=1048576)(ZQ:k.size<=60)(hL:Lay w)(ZN:EV w 3)(ZM:Deb w)(L:10<w.heap.size):Calls Pg 25 #[Y s,Y k] w λe ZJ=>eA w s k e ZJ:=by
 have j:=ae ((q9 w).alloc ly (N #[Z U 0 0] 37));have m:Hid (AcR (w.alloc (N #[Z U 0 0] 37)) w.heap.size (Z U 0 0)):=nL w _;have h1:decide ((s.size:Int)<17)=ZA:=by simp;omega
 have h2:decide ((60:Int)<(k.size:Int))=ZA:=by simp;omega
 have g1:¬ (s.size:Int)<17:=by omega
 have g2:¬ (60:Int)<(k.size:Int):=by omega
 have h3:(17:Int)<=(s.size:Int):=by omega
 have hxs:=ext_size s h;have SO:=ae (λV (z:Below w.heap.size w V)=>qK (s.extract 17 s.size) k V (by omega) ZQ ((z.cell (p:=(Q 10 15 U)) L).trans ZM) (lj L z.size));have F:=ae (λV (z:Below w.heap.size w V)=>qJ (s.extract 17 s.size) V (by unfold maxLen;omega) (hL.aa z ly) (ZN.aa z ZN.1));have ZO:=ae (show ∀r,iM s k r ↔ _ from λr=>Iff.rfl);unfold ez at F;clear hL ZN ZM;by_cases g:s.extract 0 17=⟨(eG (s.extract 17 s.size) k).toArray⟩
 ·have C:fZ s k:=⟨h,ZQ,g⟩
  have ZP:=ae (λr (x:jo (s.extract 17 s.size).data.toList r)=>(show iM s k r from⟨λ_=>x,λy=>absurd C y⟩));rw[<-g] at SO;clear g C ZO;unfold eA;go_enter func25,ntmps25;go_upto_region 1 with fail;generalize w.alloc (N #[Z U 0 0] 37)=W at j m ⊢;have G:=m.lt;refine wp_region_held_drew (S:=λ_=>True) (by kernel_rfl) trivial λ_=>?_;refine aJ (i:=0) (v:=?_) rfl (by kernel_rfl) (by kernel_rfl) (by kernel_rfl) (λ_ _ _ h=>h) (by rfl) ?_ ?_;rotate_left
  ·(intro b;go_simp)
   (try with_reducible rfl)
  (try simp only[Act.put,nzL])
  refine aJ (i:=1) (v:=?_) rfl (by kernel_rfl) (by kernel_rfl) (by kernel_rfl) (λ_ _ _ h=>h) (by rfl) ?_ ?_;rotate_left
  ·(intro b;go_simp)
   (try with_reducible rfl)
  (try simp only[Act.put,nzL])
  refine aJ (i:=2) (v:=ZD ZA) rfl (by kernel_rfl) (by kernel_rfl) (by kernel_rfl) (λ_ _ _ h=>h) (by rfl) ?_ ?_;{(intro b;go_simp)}
  (try simp only[Act.put,nzL])
  refine aJ (i:=3) (v:=?_) rfl (by kernel_rfl) (by kernel_rfl) (by kernel_rfl) (λ_ _ _ h=>h) (by rfl) ?_ ?_;rotate_left
  ·(intro b;go_simp)
   (try with_reducible rfl)
  (try simp only[Act.put,nzL])
  refine aJ (i:=4) (v:=?_) rfl (by kernel_rfl) (by kernel_rfl) (by kernel_rfl) (λ_ _ _ h=>h) (by rfl) ?_ ?_;rotate_left
  ·(intro b;go_simp)
   (try with_reducible rfl)
  (try simp only[Act.put,nzL])
  refine aJ (i:=5) (v:=?_) rfl (by kernel_rfl) (by kernel_rfl) (by kernel_rfl) (λ_ _ _ h=>h) (by rfl) ?_ ?_;rotate_left
  ·(intro b;go_simp)
   (try with_reducible rfl)
  (try simp only[Act.put,nzL])
  refine aJ (i:=6) (v:=ZD ZA) rfl (by kernel_rfl) (by kernel_rfl) (by kernel_rfl) (λ_ _ _ h=>h) (by rfl) ?_ ?_;{(intro b;go_simp)}
  (try simp only[Act.put,nzL])
  refine aJ (i:=7) (v:=ZD ZA) rfl (by kernel_rfl) (by kernel_rfl) (by kernel_rfl) (λ_ _ _ h=>h) (by rfl) ?_ ?_;{(intro b;go_simp)}
  (try simp only[Act.put,nzL])
  refine aJ (i:=8) (v:=?_) rfl (by kernel_rfl) (by kernel_rfl) (by kernel_rfl) (λ_ _ _ h=>h) (by rfl) ?_ ?_;rotate_left
  ·(intro b;go_simp)
   (try with_reducible rfl)
  (try simp only[Act.put,nzL])
  refine aJ (i:=9) (v:=?_) rfl (by kernel_rfl) (by kernel_rfl) (by kernel_rfl) (λ_ _ _ h=>h) (by rfl) ?_ ?_;rotate_left
  ·(intro b;go_simp)
   (try with_reducible rfl)
  (try simp only[Act.put,nzL])
  refine aJ (i:=10) (v:=?_) rfl (by kernel_rfl) (by kernel_rfl) (by kernel_rfl) (λ_ _ _ h=>h) (by rfl) ?_ ?_;rotate_left
  ·(intro b;go_simp)
   (try with_reducible rfl)
  (try simp only[Act.put,nzL])
  refine aJ (i:=11) (v:=?_) rfl (by kernel_rfl) (by kernel_rfl) (by kernel_rfl) (λ_ _ _ h=>h) (by rfl) ?_ ?_;rotate_left
  ·(intro b;go_simp)
   (try with_reducible rfl)
  (try simp only[Act.put,nzL])
  refine aJ (i:=12) (v:=?_) rfl (by kernel_rfl) (by kernel_rfl) (by kernel_rfl) (λ_ _ _ h=>h) (by rfl) ?_ ?_;rotate_left
  ·(intro b;go_simp)
   (try with_reducible rfl)
  (try simp only[Act.put,nzL])
  refine aJ (i:=13) (v:=?_) rfl (by kernel_rfl) (by kernel_rfl) (by kernel_rfl) (λ_ _ _ h=>h) (by rfl) ?_ ?_;rotate_left
  ·(intro b;go_simp)
   (try with_reducible rfl)
  (try simp only[Act.put,nzL])
  refine tj (i:=14) rfl (by kernel_rfl) λK u=>?_;go_simp;go_at_call 75;refine(SO _ (by first|exact j|exact j.drew)).mono ?_;rintro e n ⟨rfl,f⟩;have q:Hid (Below W.heap.size W n):=⟨f.os,f.tape,f.output,f.size,f.block⟩
  clear f;refine u _ _ ?_;clear u K
  (try simp only[Act.put,nzL])
  refine aJ (i:=15) (v:=ZD ZA) rfl (by kernel_rfl) (by kernel_rfl) (by kernel_rfl) (λ_ _ _ h=>h) (by rfl) ?_ ?_;{(intro b;go_simp)}
  (try simp only[Act.put,nzL])
  refine aJ (i:=16) (v:=ZD ZA) rfl (by kernel_rfl) (by kernel_rfl) (by kernel_rfl) (λ_ _ _ h=>h) (by rfl) ?_ ?_;{(intro b;go_simp)}
  (try simp only[Act.put,nzL])
  refine wpAnyH_done (by kernel_rfl) ?_ _;have o:=ae (j.trans (q.mono j.size));have l:=ae (m.aa q G);go_wp2_with fail;refine(F n o).mono ?_;rintro e w3 ⟨r,a,c,R,D,rfl,B,hM,O,t⟩;have IR:=ae (ZP r D);have ZK:=ae (o.trans (t.mono o.size));have A:=ae (l.aa t l.lt);have c0:=A.c0;have f0:=A.fz 0;have l3:=A.lt;have P:w.heap.size<n.heap.size:=l.lt;have H:=ae (A.set (Z a R.length c));have E:=ae (ZK.setCell (p:=(Q w.heap.size 0 U)) ly (Z a R.length c));have D5:=ae ((B.set (p:=(Q w.heap.size 0 U)) (e:=0) (.inl P) (Z a R.length c)).mono (show w.heap.size<=n.heap.size by omega));have HM:=ae hM;have ZI:=ae O;clear D B hM O t;go_wp2;try simp only[Exit.inBlock,Exit.then]
  refine bp (dl rfl _ _ w.heap.size _ rfl H) rfl ?_;exact⟨r,a,c,R,IR,rfl,D5,HM,ZI,E⟩
 ·have ZP:Hid (iM s k U):=nY λx=>g x.2.2;have X:=pC g;have e2:=wu g;generalize (⟨(eG (s.extract 17 s.size) k).toArray⟩:ByteArray)=ZL at SO g X e2 ⊢;clear ZO F;go_enter func25,ntmps25;go_upto_region 1 with fail;generalize w.alloc (N #[Z U 0 0] 37)=W at j m ⊢;have G:=m.lt;refine wp_region_held_drew (S:=λ_=>True) (by kernel_rfl) trivial λ_=>?_;refine aJ (i:=0) (v:=?_) rfl (by kernel_rfl) (by kernel_rfl) (by kernel_rfl) (λ_ _ _ h=>h) (by rfl) ?_ ?_;rotate_left
  ·(intro b;go_simp)
   (try with_reducible rfl)
  (try simp only[Act.put,nzL])
  refine aJ (i:=1) (v:=?_) rfl (by kernel_rfl) (by kernel_rfl) (by kernel_rfl) (λ_ _ _ h=>h) (by rfl) ?_ ?_;rotate_left
  ·(intro b;go_simp)
   (try with_reducible rfl)
  (try simp only[Act.put,nzL])
  refine aJ (i:=2) (v:=ZD ZA) rfl (by kernel_rfl) (by kernel_rfl) (by kernel_rfl) (λ_ _ _ h=>h) (by rfl) ?_ ?_;{(intro b;go_simp)}
  (try simp only[Act.put,nzL])
  refine aJ (i:=3) (v:=?_) rfl (by kernel_rfl) (by kernel_rfl) (by kernel_rfl) (λ_ _ _ h=>h) (by rfl) ?_ ?_;rotate_left
  ·(intro b;go_simp)
   (try with_reducible rfl)
  (try simp only[Act.put,nzL])
  refine aJ (i:=4) (v:=?_) rfl (by kernel_rfl) (by kernel_rfl) (by kernel_rfl) (λ_ _ _ h=>h) (by rfl) ?_ ?_;rotate_left
  ·(intro b;go_simp)
   (try with_reducible rfl)
  (try simp only[Act.put,nzL])
  refine aJ (i:=5) (v:=?_) rfl (by kernel_rfl) (by kernel_rfl) (by kernel_rfl) (λ_ _ _ h=>h) (by rfl) ?_ ?_;rotate_left
  ·(intro b;go_simp)
   (try with_reducible rfl)
  (try simp only[Act.put,nzL])
  refine aJ (i:=6) (v:=ZD ZA) rfl (by kernel_rfl) (by kernel_rfl) (by kernel_rfl) (λ_ _ _ h=>h) (by rfl) ?_ ?_;{(intro b;go_simp)}
  (try simp only[Act.put,nzL])
  refine aJ (i:=7) (v:=ZD ZA) rfl (by kernel_rfl) (by kernel_rfl) (by kernel_rfl) (λ_ _ _ h=>h) (by rfl) ?_ ?_;{(intro b;go_simp)}
  (try simp only[Act.put,nzL])
  refine aJ (i:=8) (v:=?_) rfl (by kernel_rfl) (by kernel_rfl) (by kernel_rfl) (λ_ _ _ h=>h) (by rfl) ?_ ?_;rotate_left
  ·(intro b;go_simp)
   (try with_reducible rfl)
  (try simp only[Act.put,nzL])
  refine aJ (i:=9) (v:=?_) rfl (by kernel_rfl) (by kernel_rfl) (by kernel_rfl) (λ_ _ _ h=>h) (by rfl) ?_ ?_;rotate_left
  ·(intro b;go_simp)
   (try with_reducible rfl)
  (try simp only[Act.put,nzL])
  refine aJ (i:=10) (v:=?_) rfl (by kernel_rfl) (by kernel_rfl) (by kernel_rfl) (λ_ _ _ h=>h) (by rfl) ?_ ?_;rotate_left
  ·(intro b;go_simp)
   (try with_reducible rfl)
  (try simp only[Act.put,nzL])
  refine aJ (i:=11) (v:=?_) rfl (by kernel_rfl) (by kernel_rfl) (by kernel_rfl) (λ_ _ _ h=>h) (by rfl) ?_ ?_;rotate_left
  ·(intro b;go_simp)
   (try with_reducible rfl)
  (try simp only[Act.put,nzL])
  refine aJ (i:=12) (v:=?_) rfl (by kernel_rfl) (by kernel_rfl) (by kernel_rfl) (λ_ _ _ h=>h) (by rfl) ?_ ?_;rotate_left
  ·(intro b;go_simp)
   (try with_reducible rfl)
  (try simp only[Act.put,nzL])
  refine aJ (i:=13) (v:=?_) rfl (by kernel_rfl) (by kernel_rfl) (by kernel_rfl) (λ_ _ _ h=>h) (by rfl) ?_ ?_;rotate_left
  ·(intro b;go_simp)
   (try with_reducible rfl)
  (try simp only[Act.put,nzL])
  refine tj (i:=14) rfl (by kernel_rfl) λK u=>?_;go_simp;go_at_call 75;refine(SO _ (by first|exact j|exact j.drew)).mono ?_;rintro e n ⟨rfl,f⟩;have q:Hid (Below W.heap.size W n):=⟨f.os,f.tape,f.output,f.size,f.block⟩
  clear f;refine u _ _ ?_;clear u K
  (try simp only[Act.put,nzL])
  refine aJ (i:=15) (v:=ZD ZG) rfl (by kernel_rfl) (by kernel_rfl) (by kernel_rfl) (λ_ _ _ h=>h) (by rfl) ?_ ?_;{(intro b;go_simp)}
  (try simp only[Act.put,nzL])
  refine aJ (i:=16) (v:=ZD ZG) rfl (by kernel_rfl) (by kernel_rfl) (by kernel_rfl) (λ_ _ _ h=>h) (by rfl) ?_ ?_;{(intro b;go_simp)}
  (try simp only[Act.put,nzL])
  refine wpAnyH_done (by kernel_rfl) ?_ _;have o:=ae (j.trans (q.mono j.size));have l:=ae (m.aa q G);have c0:=l.c0;have f0:=l.fz 0;have l2:=l.lt;have H:=ae (l.set (Z U 0 0));have E:=ae (o.setCell (p:=(Q w.heap.size 0 U)) ly (Z U 0 0));go_wp2;try simp only[Exit.inBlock,Exit.then]
  refine bp (dl rfl _ _ w.heap.size _ rfl H) rfl ?_;unfold eA;exact⟨U,U,0,[],ZP,rfl,cA _ _,rfl,SzD.nil _,E⟩
theorem lG (s k:ByteArray)(w:M)(c:s.size<=1048576)(hk:k.size<=1048576)(hL:Lay w)(g:EV w 3)(i:Deb w)(f:10<w.heap.size):Calls Pg 25 #[Y s,Y k] w λe b=>eA w s k e b:=by
 by_cases h:s.size<17;{exact pD s k w h};by_cases h2:60<k.size;{exact rQ s k w (by omega) h2 (by unfold maxLen;omega) (by unfold maxLen;omega)};{exact tS s k w (by omega) c (by omega) hL g i f}
