import Derived.Test.YtpmnbjkjpnclaaaGreatDoorMW
import Derived.Test.YtpmnbjkjpnclaaaGreatDoorLI
set_option maxHeartbeats 2000000
open Go renaming Addr.mk->N,Value.slice->Y,Value.string->U,Value.int->Q,Value.bool->ZC,Value.agg->ZG,IntKind.i64->I,World->M,Value->ZB,Ending.returned->ZD,Proofs.Tryz.prog->Pg
open Option renaming none->Z,some->T
open Bool renaming false->ZA,true->ZF
namespace Go.Proofs.YtpmnbjkjpnclaaaGreatDoor.Vp
open Tryz RowKit
variable {b w:M}
def Pow (w:M):Prop:=Lib.TabIs Pg w "internal/strconv.uint64pow10" .u64 Lib.pow10Tab
theorem gPow:Pg.globalNamed "internal/strconv.uint64pow10"=T 2:=by kernel_rfl
theorem Pow.aa{B:Nat}(h:Pow w)(hb:Below B w b)(f:w.heap.size<=B):Pow b:=Joins.tab_stays gPow h hb f
theorem Pow.low{B:Nat}(h:Pow w)(hb:Below B w b)(f:2<B):Pow b:=var?_below hb gPow f h
theorem qR{W:M}{os:Array Obj}{B:Nat}(h:b.heap=W.heap++os)(h1:b.os=W.os)(h2:b.tape=W.tape)(f:b.output=W.output)(hB:B<=W.heap.size):Below B W b :=
 ⟨h1,h2,f,by rw[h,Array.size_append];omega,λi hi=>by rw[h,Array.getElem?_append_left (by omega)]⟩
theorem rS (m:Nat)(w:M)(hm:(m:Int)<=9223372036854775807)(f:Pow w):Calls Pg 55 #[Q I m] w λe b=>e=ZD (U ⟨(Lib.decDigits m).toArray⟩)/\Below w.heap.size w b:=by refine(Tryz.strconv_Itoa (m:Int) (by omega) (by omega) _ f).mono ?_;rintro e b ⟨rfl,j,os,g⟩;rw[Lib.itoa_nonneg];refine⟨rfl,?_⟩;rw[g];exact qR (os:=os) rfl rfl rfl rfl (by simp)
def dw (n:Nat):ByteArray:=⟨(Lib.decDigits n).toArray⟩
def dN (b:Bool):ByteArray:=if b then ⟨#[49]⟩ else ⟨#[48]⟩
theorem kY (x:Bool)(w:M):Calls Pg 249 #[ZC x] w λe b=>e=ZD (U (dN x))/\b=w:=by
 cases x
 all_goals
  go_enter func249,ntmps249;go_wp2;go_ret;exact⟨rfl,rfl⟩
theorem ol (x:Bool)(w:M):Calls Pg 191 #[ZC x] w λe b=>e=ZD (U (dN x))/\b=w:=by
 cases x
 all_goals
  go_enter func191,ntmps191;go_wp2;go_ret;exact⟨rfl,rfl⟩
theorem iY (b:Nat)(h:ZB)(m:Mst)(p:Nat)(w:M)(hM:MAt w b h m)(hp:p<=2000)(o:Pow w):Calls Pg 304 #[.pointer (T (N b 0 Z)),Q I p] w λe q=>e=ZD (.tuple #[])/\MAt q b h { m with t:=⟨ZF,2,dw p,ZA,⟨#[]⟩,m.g⟩ }/\Only b w q:=by have s:=ae hM;have u:=ae o;have x:=hM.lt;clear hM o;go_enter func304,ntmps304;go_wp2_with fail;refine(rS _ _ (by omega) u).mono ?_;rintro e w1 ⟨rfl,i⟩;have r:=ae i;have j:=ae (s.aa i x);clear i;go_wp2_with fail;refine(jv b h m _ _ _ j).mono ?_;rintro e w2 ⟨rfl,g,f⟩;have n:=ae g;have l:=ae f;clear g f;go_wp2;refine kK rfl rfl ?_;exact⟨rfl,n,(Only.q r).trans l⟩
def oq (p:Nat)(steps:Int):Turn:=⟨ZF,2,dw p,ZA,⟨#[]⟩,steps⟩
theorem zY (b:Nat)(h:ZB)(m:Mst)(k p:Nat)(w:M)(hM:MAt w b h m)(C:m.size=k+2)(hs:k+2<=50)(H:p<=2000)(A:Pow w)(y:2<b)(ha:(m.S k).size<=2000)(hb:(m.S (k+1)).size<=2000):Calls Pg 312 #[.pointer (T (N b 0 Z)),Q I p] w λe z=>e=ZD (.tuple #[]) /\
   MAt z b h (if (m.S k).size+(m.S (k+1)).size<=2000 then { m with S:=upd m.S k (m.S k++m.S (k+1)),size:=k+1 } else { m with size:=k,t:=oq p m.g })/\Only b w z:=by
 have D:=ae hM;have E:=ae A;have ZP:=hM.lt;clear hM A;obtain⟨X,hX⟩:∃X,X=(if (m.S k).size+(m.S (k+1)).size<=2000 then { m with S:=upd m.S k (m.S k++m.S (k+1)),size:=k+1 } else { m with size:=k,t:=oq p m.g }):=⟨_,rfl⟩
 rw[<-hX];have n:=ae hX;clear hX;go_enter func312,ntmps312;go_wp2_with fail;refine(jH b h m (k+1) _ D C (by omega)).mono ?_;rintro e w1 ⟨rfl,s,o⟩;have x:=ae s;have B:=ae o;clear s o;go_wp2_with fail;refine(jH b h _ k _ x rfl (by omega)).mono ?_;rintro e w2 ⟨rfl,u,q⟩;have r:=ae u;have j:=ae (B.trans q);clear u q;by_cases hlen:((m.S k).size:Int)+((m.S (k+1)).size:Int)<=2000;{rw[nL (by omega)] at n;go_wp2_with fail;refine(oS b h _ _ _ r (by simp;omega)).mono ?_;rintro e G ⟨rfl,g,f⟩;have l:=ae g;have i:=ae (j.trans f);clear g f;go_wp2;refine kK rfl rfl ?_;exact⟨rfl,by rw[n.out];exact l,i⟩};{rw[eT (by omega)] at n;go_wp2_with fail;refine(iY b h _ p _ r H (E.low (j.aa ly (NH ZP)) y)).mono ?_;rintro e G ⟨rfl,g,f⟩;have l:=ae g;have i:=ae (j.trans f);clear g f;go_wp2;refine oR rfl rfl ?_;exact⟨rfl,by rw[n.out];exact l,i⟩}
theorem zZ (b:Nat)(r:ZB)(m:Mst)(ask:Bool)(k p:Nat)(w:M)(hM:MAt w b r m)(D:m.size=k+1)(hs:k+1<=50)(H:p<=2000)(hlk:0<=m.looks)(hlk2:m.looks<=200)(A:Pow w)(z:2<b):Calls Pg 315 #[.pointer (T (N b 0 Z)),ZC ask,Q I p] w λe B=>e=ZD (.tuple #[]) /\
   MAt B b r (if aA (m.S k)=ZA then { m with size:=k,t:=oq p m.g } else if m.looks=200 then { m with size:=k,t:=⟨ZF,3,⟨#[]⟩,ZA,⟨#[]⟩,m.g⟩ } else { m with size:=k,looks:=m.looks+1,t:=⟨ZA,0,⟨#[]⟩,ask,m.S k,m.g⟩ })/\Only b w B:=by
 have E:=ae hM;have G:=ae A;have ZP:=hM.lt;clear hM A;obtain⟨X,hX⟩:∃X,X=(if aA (m.S k)=ZA then { m with size:=k,t:=oq p m.g } else if m.looks=200 then { m with size:=k,t:=⟨ZF,3,⟨#[]⟩,ZA,⟨#[]⟩,m.g⟩ } else { m with size:=k,looks:=m.looks+1,t:=⟨ZA,0,⟨#[]⟩,ask,m.S k,m.g⟩ }):=⟨_,rfl⟩
 rw[<-hX];have j:=ae hX;clear hX;go_enter func315,ntmps315;go_wp2_with fail;refine(jH b r m k _ E D (by omega)).mono ?_;rintro e w1 ⟨rfl,x,s⟩;have u:=ae x;have C:=ae s;clear x s;go_wp2_with fail;refine(eh _ _).mono ?_;rintro e w2 ⟨rfl,o⟩;have f:=ae (u.aa o u.lt);have l:=ae (C.trans (Only.q o));clear o;cases hn:aA (m.S k) with
 |false =>rw[nL hn] at j;go_wp2_with fail;refine(iY b r _ p _ f H (G.low (l.aa ly (NH ZP)) z)).mono ?_;rintro e ZO ⟨rfl,i,h⟩;have q:=ae i;have n:=ae (l.trans h);clear i h;go_wp2;refine oR rfl rfl ?_;exact⟨rfl,by rw[j.out];exact q,n⟩
 |true =>
  rw[eT (by simp[hn])] at j;obtain⟨c4,z4⟩:=f.am 54 (Q I m.looks) (by omega) (by simp[Mst.F]);by_cases g:m.looks=200
  ·rw[nL g] at j;have y:(m.looks == 200)=ZF:=by simp[g]
   go_wp2_with fail;refine(jv b r _ _ _ _ f).mono ?_;rintro e ZO ⟨rfl,i,h⟩;have q:=ae i;have n:=ae (l.trans h);clear i h;go_wp2;refine oR rfl rfl ?_;exact⟨rfl,by rw[j.out];exact q,n⟩
  ·rw[eT g] at j;have y:(m.looks == 200)=ZA:=by simp[g]
   obtain⟨c3,z3⟩:=f.am 53 (Q I m.g) (by omega) (by simp[Mst.F]);obtain⟨⟨c5,z5⟩,⟨c6,z6⟩,⟨c7,z7⟩,⟨c8,z8⟩,⟨c9,z9⟩,c10,z10⟩:=f.turn;go_wp2;refine kK rfl rfl ?_;exact⟨rfl,by rw[j.out];exact(f.setLooks _).setTurn ⟨ZA,0,⟨#[]⟩,ask,m.S k,m.g⟩,Cp (bO l _ _) ⟨ZA,0,⟨#[]⟩,ask,m.S k,m.g⟩⟩
def ep (c:Int)(t:ByteArray)(n:Nat):ByteArray:=if 0<=c/\c<=5/\t.size<=2000/\n=0 then (⟨(Lib.decDigits c.toNat).toArray⟩:ByteArray)++⟨#[58]⟩++t else ⟨#[]⟩
theorem FC{k:Nat}(h:k<=5):(Lib.decDigits k).length=1:=by rw[Lib.decDigits_one (by omega)];rfl
theorem wA{k:Nat}(h:k<=5):(⟨(Lib.decDigits k).toArray⟩:ByteArray).size=1:=by show(Lib.decDigits k).toArray.size=1;simp[FC h]
theorem uc (c:Int)(t:ByteArray)(a:Option Addr)(n cap:Nat)(w:M)(h:¬ (0<=c/\c<=5/\(t.size:Int)<=2000/\(n:Int)<=0)):Calls Pg 14 #[ZG #[Q I c,U t,Y a n cap]] w λe b=>e=ZD (U ⟨#[]⟩)/\Below w.heap.size w b:=by
 by_cases h1:0<=c
 ·by_cases h2:c<=5
  ·by_cases h3:(t.size:Int)<=2000
   ·have h4:¬ (n:Int)<=0:=by omega
    go_enter TV,SU;go_wp2;go_ret;exact⟨rfl,br.alloc ly _⟩
   {go_enter TV,SU;go_wp2;go_ret;exact⟨rfl,br.alloc ly _⟩}
  {go_enter TV,SU;go_wp2;go_ret;exact⟨rfl,br.alloc ly _⟩}
 {go_enter TV,SU;go_wp2;go_ret;exact⟨rfl,br.alloc ly _⟩}
theorem ud (c:Int)(t:ByteArray)(a:Option Addr)(n cap:Nat)(w:M)(h:¬ (0<=c/\c<=5/\(t.size:Int)<=2000/\(n:Int)<=0)):Calls Pg 48 #[ZG #[Q I c,U t,Y a n cap]] w λe b=>e=ZD (U ⟨#[]⟩)/\Below w.heap.size w b:=by
 by_cases h1:0<=c
 ·by_cases h2:c<=5
  ·by_cases h3:(t.size:Int)<=2000
   ·have h4:¬ (n:Int)<=0:=by omega
    go_enter TW,SV;go_wp2;go_ret;exact⟨rfl,br.alloc ly _⟩
   {go_enter TW,SV;go_wp2;go_ret;exact⟨rfl,br.alloc ly _⟩}
  {go_enter TW,SV;go_wp2;go_ret;exact⟨rfl,br.alloc ly _⟩}
 {go_enter TW,SV;go_wp2;go_ret;exact⟨rfl,br.alloc ly _⟩}
theorem rT (k:Nat)(t:ByteArray)(a:Option Addr)(cap:Nat)(w:M)(l:k<=5)(ht:(t.size:Int)<=2000)(j:Pow w):Calls Pg 14 #[ZG #[Q I k,U t,Y a 0 cap]] w λe r=>e=ZD (U ((⟨(Lib.decDigits k).toArray⟩:ByteArray)++⟨#[58]⟩++t))/\Below w.heap.size w r:=by
 have o:=ae j;have q:=wA l;clear j;obtain⟨D,g⟩:∃D:ByteArray,D=⟨(Lib.decDigits k).toArray⟩:=⟨_,rfl⟩
 rw[<-g] at q ⊢;have n:=ae g;clear g;go_enter TV,SU;have h:=ae ((BS w).alloc ly (.cells #[Q I k,U t,Y a 0 cap] 39));have f:=ae (o.out.aa h.out ly);go_wp2_with fail;go_region_with (go_at_call 55;refine(rS k _ (by omega) ?_).mono ?_;(first|exact f.out|exact f.out.aa br.drew ly);rintro e i ⟨rfl,b⟩;rw[<-n.out];have C1:i.cell? (N w.heap.size 1 Z)=T (U t):=(b.cell (p:=(N w.heap.size 1 Z)) (by simp)).trans (by simp);have m:Hid (Below w.heap.size w i):=Below.trans (by repeat (first|exact h.out|apply UE)) (b.mono (by simp));clear b);all_goals
  go_wp2;go_ret;exact⟨rfl,by repeat (first|exact m.out|apply UE)⟩
theorem rU (k:Nat)(t:ByteArray)(a:Option Addr)(cap:Nat)(w:M)(i:k<=5)(ht:(t.size:Int)<=2000):Calls Pg 48 #[ZG #[Q I k,U t,Y a 0 cap]] w λe n=>e=ZD (U ((⟨(Lib.decDigits k).toArray⟩:ByteArray)++⟨#[58]⟩++t))/\Below w.heap.size w n:=by
 have m:=wA i;obtain⟨D,f⟩:∃D:ByteArray,D=⟨(Lib.decDigits k).toArray⟩:=⟨_,rfl⟩
 rw[<-f] at m ⊢;have l:=ae f;clear f;go_enter TW,SV;have h:=ae ((BS w).alloc ly (.cells #[Q I k,U t,Y a 0 cap] 39));go_wp2_with fail;go_region_with (go_at_call 104;refine(kQ k (by omega) _).mono ?_;rintro e g ⟨rfl,b⟩;rw[<-l.out];have C1:g.cell? (N w.heap.size 1 Z)=T (U t):=(b.cell (p:=(N w.heap.size 1 Z)) (by simp)).trans (by simp);have j:Hid (Below w.heap.size w g):=Below.trans (by repeat (first|exact h.out|apply UE)) (b.mono (by simp));clear b);all_goals
  go_wp2;go_ret;exact⟨rfl,by repeat (first|exact j.out|apply UE)⟩
theorem pW{k:Nat}{t:ByteArray}(hk:k<=5)(ht:(t.size:Int)<=2000):ep k t 0=(⟨(Lib.decDigits k).toArray⟩:ByteArray)++⟨#[58]⟩++t:=by unfold ep;rw[nL (by omega)];rfl
theorem kZ (c:Int)(t:ByteArray)(a:Option Addr)(n cap:Nat)(w:M)(b:Pow w):Calls Pg 14 #[ZG #[Q I c,U t,Y a n cap]] w λe f=>e=ZD (U (ep c t n))/\Below w.heap.size w f:=by
 by_cases h:0<=c/\c<=5/\(t.size:Int)<=2000/\(n:Int)<=0
 ·obtain⟨k,rfl⟩:=AT h.1;obtain rfl:n=0:=by omega
  rw[pW (by omega) h.2.2.1];exact rT k t a cap w (by omega) h.2.2.1 b
 ·have e:ep c t n=⟨#[]⟩:=by unfold ep;rw[eT (by omega)]
  rw[e];exact uc c t a n cap w h
theorem li (c:Int)(t:ByteArray)(a:Option Addr)(n cap:Nat)(w:M):Calls Pg 48 #[ZG #[Q I c,U t,Y a n cap]] w λe b=>e=ZD (U (ep c t n))/\Below w.heap.size w b:=by
 by_cases h:0<=c/\c<=5/\(t.size:Int)<=2000/\(n:Int)<=0
 ·obtain⟨k,rfl⟩:=AT h.1;obtain rfl:n=0:=by omega
  rw[pW (by omega) h.2.2.1];exact rU k t a cap w (by omega) h.2.2.1
 ·have e:ep c t n=⟨#[]⟩:=by unfold ep;rw[eT (by omega)]
  rw[e];exact ud c t a n cap w h
