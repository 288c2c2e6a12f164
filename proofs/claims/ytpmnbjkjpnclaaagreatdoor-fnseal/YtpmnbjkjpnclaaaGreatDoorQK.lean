import Derived.Test.YtpmnbjkjpnclaaaGreatDoorQG
import Derived.Lib.AtoiAllCases
import Derived.Test.YtpmnbjkjpnclaaaGreatDoorRH
import Derived.Deep.DeepFit
set_option maxRecDepth 100000
set_option maxHeartbeats 4000000
set_option linter.unusedSimpArgs false
open Go renaming Addr.mk->Q,Value.slice->Z,Value.string->Y,Value.int->J,Value.bool->ZD,Obj.cells->N,IntKind.i64->I,World->M,Value->ZC,Ending.returned->ZF,Proofs.Tryz.prog->Pg
open Option renaming none->U,some->T
open Bool renaming false->ZA,true->ZG
namespace Go.Proofs.YtpmnbjkjpnclaaaGreatDoor.Vp
open Tryz RowKit
variable {w b:M}{B f:Nat}{n op:Int}{s l x S:List UInt8}{c:UInt8}{o:Option I3}
theorem mj (s:ByteArray)(w:M)(c:TabW w)(hz:1<w.heap.size):Calls Pg 302 #[Y s] w λe n=>e=ZF (J I (opF s.data.toList))/\n=w:=by
 have o:=ae c;clear c;go_enter func302,ntmps302;go_wp2;go_loopw [3] (λi wr=>∃k:Nat,1<=k/\k<=16/\i=J I k/\Hid (∀j:Int,1<=j->j<k->s.data.toList≠word j)/\wr=w) (λi _=>16 - (intOf i).toNat);case atStart=>exact⟨1,by omega,by omega,rfl,λj h1 h2=>by omega,rfl⟩
 case round =>
  obtain⟨k,hk1,hk2,rfl,m,rfl⟩:=hrel;by_cases f:k<16
  ·have c0:=o.out k f;have g:(k:Int)<=15:=by omega
   have h16:(k:Int)<16:=by omega
   cases hb:(word k == s.toList) with
   |true =>
    have l:s.data.toList=word k:=by have:=eq_of_beq hb;rw[BG] at this;exact this.symm
    have b:=ae (show opF s.data.toList=k by rw[l];exact jQ ⟨by omega,g⟩);clear l;go_wp2;go_ret;exact⟨by rw[b.out];rfl,rfl⟩
   |false =>
    have p:=ae (show s.data.toList≠word k from λe=>by
     rw[BG,e] at hb
     simp at hb)
    go_wp2;refine⟨⟨k+1,by omega,by omega,by go_num,λj h1 h2=>?_,trivial⟩,by simp[intOf];omega⟩;by_cases e:j=k;{rw[e];exact p.out};{exact m.out j h1 (by omega)}
  ·obtain rfl:k=16:=by omega
   have b:=ae (show opF s.data.toList=0 from by
    rcases qU s.data.toList with h|⟨h1,h2,h3⟩
    {exact h.1}
    ·exact absurd h3 (m.out _ h1 (by omega)))
   go_wp2;go_ret;exact⟨by rw[b.out];rfl,rfl⟩
theorem vb (c:UInt8):∀s:List UInt8,(Lib.indexByte s c=-1/\af c s=(s,[],ZA))∨∃i:Nat,Lib.indexByte s c=i/\i<s.length/\af c s=(s.take i,s.drop (i+1),ZG)
 |[]=>.inl ⟨rfl,rfl⟩
 |b::l=>by
  by_cases e:b=c
  ·subst e
   exact .inr ⟨0,by simp[Lib.indexByte],by simp,by simp[af]⟩
  ·have hb:(b == c)=ZA:=by simpa using e
   rcases vb c l with ⟨h1,h2⟩|⟨i,h1,h2,h3⟩
   ·exact .inl ⟨by simp[Lib.indexByte,hb,h1],by rw[af,gM e,h2]⟩
   ·refine .inr ⟨i+1,?_,by simp only[eL];omega,?_⟩
    ·have:((i:Int) == -1)=ZA:=by
      have h:¬ (i:Int)=-1:=by omega
      exact beq_false_of_ne h
     simp[Lib.indexByte,hb,h1,this]
    ·rw[af,gM e,h3]
     simp
theorem xh (s:ByteArray)(c:UInt8)(w:M)(h:s.size<=maxLen):Calls Pg 279 #[Y s,Y ⟨#[c]⟩] w λe b=>e=ZF (.tuple #[Y ⟨(af c s.data.toList).1.toArray⟩,Y ⟨(af c s.data.toList).2.1.toArray⟩,ZD (af c s.data.toList).2.2])/\∃m,b=w.drewN m:=by
 unfold maxLen at h;rcases vb c s.data.toList with ⟨h1,h2⟩|⟨i,h1,h2,h3⟩
 {rw[h2];go_enter func279,ntmps279;go_wp2_with (go_at_call 299;refine(Tryz.stringslite_Index_one s c _).mono ?_;rintro e b ⟨rfl,rfl⟩;rw[h1]);go_ret3;exact⟨by simp,0,rfl⟩}
 ·rw[h3];have hl:i<s.size:=by simpa using h2
  have c1:(0:Int)<=↑i:=by omega
  have c2:(↑i:Int)<=↑s.size:=by omega
  have c3:(0:Int)<=↑i+1:=by omega
  have c4:(↑i+1:Int)<=↑s.size:=by omega
  have c5:(s.size:Int)<=9223372036854775807:=by omega
  have g:=ae (show s.extract 0 i=⟨(s.data.toList.take i).toArray⟩ from by
   refine N5 (QS ?_)
   simp[PH])
  have f:=ae (show s.extract (i+1) s.size=⟨(s.data.toList.drop (i+1)).toArray⟩ from by
   refine N5 (QS ?_);simp only[PH,P6,PC]
   rw[IU (by simp)])
  go_enter func279,ntmps279;go_wp2_with (go_at_call 299;refine(Tryz.stringslite_Index_one s c _).mono ?_;rintro e b ⟨rfl,rfl⟩;rw[h1]);go_quiet (fail);go_wp2;go_ret3;exact⟨by rw[<-g.out,<-f.out];rfl,nq,rfl⟩
theorem fv (s:ByteArray)(c:UInt8)(w:M)(f:s.size<=maxLen):Calls Pg 244 #[Y s,Y ⟨#[c]⟩] w λe b=>e=ZF (.tuple #[Y ⟨(af c s.data.toList).1.toArray⟩,Y ⟨(af c s.data.toList).2.1.toArray⟩,ZD (af c s.data.toList).2.2])/\∃m,b=w.drewN m:=by go_enter func244,ntmps244;go_wp2_with (go_at_call 279;refine(xh s c _ f).mono ?_;rintro e b ⟨rfl,m,rfl⟩);go_ret3;exact⟨rfl,m,rfl⟩
theorem Jf (c:UInt8):Lib.indexByte [48,49,50,51,52,53,54,55,56,57,97,98,99,100,101,102] c=aT c:=by refine un (p:=λc=>Lib.indexByte [48,49,50,51,52,53,54,55,56,57,97,98,99,100,101,102] c=aT c) ?_ c;decide +kernel
theorem fh (c:UInt8)(w:M):Calls Pg 243 #[Y ⟨#[48,49,50,51,52,53,54,55,56,57,97,98,99,100,101,102]⟩,J .u8 c.toNat] w λe b=>e=ZF (J I (aT c))/\b=w:=by
 refine(Tryz.strings_IndexByte _ (c.toNat:Int) w).mono ?_;rintro e b ⟨rfl,rfl⟩;refine⟨?_,rfl⟩;have:((c.toNat:Int).toNat).toUInt8=c:=by simp
 rw[this];exact wA (λx=>Ending.returned (J I x)) (Jf c)
def EV (w:M)(g:Nat):Prop:=g<w.heap.size/\∃t p,w.cell? (Q g 0 U)=T (.iface t p)
theorem EV.aa{g:Nat}(h:EV w g)(hb:Below B w b)(c:g<B):EV b g:=by obtain⟨h1,t,p,h2⟩:=h;exact⟨lj h1 hb.size,t,p,(hb.cell (p:=(Q g 0 U)) c).trans h2⟩
theorem aO (s:ByteArray):s.data.toList.length=s.size:=by simp
theorem byte_at{s:ByteArray}{i:Nat}(h:i<s.size)(b:s.data.toList[i]?=T c):s[i]=c:=by obtain⟨h1,h2⟩:=n8.1 b;rw[Array.getElem_toList] at h2;exact h2
theorem EX{s:ByteArray}(h0:0<s.size):∃c r,s.data.toList=c::r/\s.size=r.length+1:=by
 have h:=aO s;cases e:s.data.toList with
 |nil=>rw[e] at h;simp at h;omega
 |cons c r=>rw[e] at h;exact⟨c,r,rfl,by simp at h;omega⟩
theorem orB (k l:Int)(b:0<=k)(h1:k<16)(h2:0<=l)(h3:l<16):bits BinOp.or IntKind.i64 (wrap64 (k*16)) l % 256=16*k+l:=by
 have H:∀n m:Fin 16,bits BinOp.or IntKind.i64 (wrap64 ((n.val:Int)*16)) (m.val:Int) % 256=16*(n.val:Int)+(m.val:Int):=by decide +kernel
 have:=H ⟨k.toNat,by omega⟩ ⟨l.toNat,by omega⟩;simp only[UL b,UL h2] at this;exact this
def jd (l:List UInt8)(w:M)(e:Ending)(b:M):Prop:=(match dD l with|some (c,_)=>e=ZF (.tuple #[J .u8 c.toNat,J I (enc c).length,.nilIface])|none=>∃t p,e=ZF (.tuple #[J .u8 0,J I 0,.iface t p]))/\∃m,b=w.drewN m
theorem lA (h:dD l=U){b:TypeId}{c:ZC}(m:Nat):jd l w (ZF (.tuple #[J .u8 0,J I 0,.iface b c])) (w.drewN m):=by unfold jd;rw[h];exact⟨⟨b,c,rfl⟩,m,rfl⟩
theorem yj{r:List UInt8}(h:dD l=T (c,r))(hn:n=(enc c).length)(m:Nat):jd l w (ZF (.tuple #[J .u8 c.toNat,J I n,.nilIface])) (w.drewN m):=by unfold jd;rw[h];exact⟨by rw[hn],m,rfl⟩
theorem Jg (s:ByteArray)(a b:UInt8)(j:List UInt8)(w:M)(c:s.data.toList=92::a::b::j)(t:s.size<=maxLen)(z:EV w 6)(hn:¬ (0<=aT a/\0<=aT b)):Calls Pg 301 #[Y s] w λe g=>jd s.data.toList w e g:=by
 have r:Hid (dD s.data.toList=U):=by show _=_;rw[c,dD,gM (by decide),p6 rfl];show(if _ then _ else _)=_;rw[gM (λh=>hn ⟨h.1,h.2.1⟩)]
 unfold maxLen at t;obtain⟨hz,te,pe,hev⟩:=z;have i:s.size=j.length+3:=by have:=aO s;rw[c] at this;simp at this;omega
 have b0:0<s.size:=by omega
 have n:1<s.size:=by omega
 have p:2<s.size:=by omega
 have h0i:(0:Int)<s.size:=by omega
 have h1i:(1:Int)<s.size:=by omega
 have h2i:(2:Int)<s.size:=by omega
 have h3:¬ (s.size:Int)<3:=by omega
 have hc:s[0]'b0=92:=byte_at b0 (by rw[c];rfl);have ha:s[1]'n=a:=byte_at n (by rw[c];rfl);have hb:s[2]'p=b:=byte_at p (by rw[c];rfl);have l:cf 92=ZA:=by decide
 have PB:=er 92;rw[l] at PB;clear c i l;have o:=fh a;have m:=fh b;generalize aT a=x at hn o;generalize aT b=y at hn m;have q:x<0∨(¬ x<0/\y<0):=by omega
 clear hn;rcases q with u|⟨u,p2⟩
 all_goals
  go_enter UF,TQ;go_wp2_with fail;refine(PB _).mono ?_;rintro e g ⟨rfl,f⟩;rw[f];clear f;go_wp2_with (go_at_call 243;(first|go_fit (o _)|go_fit (m _));rintro e g ⟨rfl,f⟩;rw[f];clear f);go_quiet (fail);go_wp2;go_ret3;exact lA r nq
theorem xj (s:ByteArray)(a b:UInt8)(o:List UInt8)(w:M)(f:s.data.toList=92::a::b::o)(D:s.size<=maxLen)(E:EV w 6)(u:0<=aT a)(t:0<=aT b)(m:cf (byteOf a b)=ZG):Calls Pg 301 #[Y s] w λe l=>jd s.data.toList w e l:=by
 have C:Hid (dD s.data.toList=U):=by show _=_;rw[f,dD,gM (by decide),p6 rfl];show(if _ then _ else _)=_;rw[gM (λh=>by rw[m] at h;exact absurd h.2.2 (by simp))]
 unfold maxLen at D;obtain⟨hz,te,pe,hev⟩:=E;have n:s.size=o.length+3:=by have:=aO s;rw[f] at this;simp at this;omega
 have b0:0<s.size:=by omega
 have r:1<s.size:=by omega
 have A:2<s.size:=by omega
 have h0i:(0:Int)<s.size:=by omega
 have h1i:(1:Int)<s.size:=by omega
 have h2i:(2:Int)<s.size:=by omega
 have h3:¬ (s.size:Int)<3:=by omega
 have hc:s[0]'b0=92:=byte_at b0 (by rw[f];rfl);have ha:s[1]'r=a:=byte_at r (by rw[f];rfl);have hb:s[2]'A=b:=byte_at A (by rw[f];rfl);have p:cf 92=ZA:=by decide
 have PB:=er 92;rw[p] at PB;clear f n p;have z:=fh a;have q:=fh b;have g:=(gF a).2;have j:=(gF b).2;have B:((byteOf a b).toNat:Int)=16*aT a+aT b:=by unfold byteOf;rw[NY];omega
 have i:=er (byteOf a b);rw[m,B] at i;clear B m;generalize aT a=x at u z i g;generalize aT b=y at t q i j;rw[<-orB x y u g t j] at i;have q1:¬ x<0:=by omega
 have q2:¬ y<0:=by omega
 clear g j;go_enter UF,TQ;go_wp2_with fail;refine(PB _).mono ?_;rintro e l ⟨rfl,c⟩;rw[c];clear c;go_wp2_with (go_at_call 243;(first|go_fit (z _)|go_fit (q _));rintro e l ⟨rfl,c⟩;rw[c];clear c);refine(i _).mono ?_;rintro e l ⟨rfl,c⟩;rw[c];clear c;go_wp2_with fail;go_quiet (fail);go_wp2;go_ret3;exact lA C nq
theorem Jh (s:ByteArray)(a b:UInt8)(r:List UInt8)(w:M)(f:s.data.toList=92::a::b::r)(F:s.size<=maxLen)(G:EV w 6)(n:0<=aT a)(m:0<=aT b)(o:cf (byteOf a b)=ZA):Calls Pg 301 #[Y s] w λe l=>jd s.data.toList w e l:=by
 have B:Hid (dD s.data.toList=T (byteOf a b,r)):=by show _=_;rw[f,dD,gM (by decide),p6 rfl];show(if _ then _ else _)=_;rw[p6 ⟨n,m,o⟩]
 have q:Hid ((3:Int)=(enc (byteOf a b)).length):=by show _=_;rw[pO n m o];rfl
 unfold maxLen at F;obtain⟨hz,te,pe,hev⟩:=G;have t:s.size=r.length+3:=by have:=aO s;rw[f] at this;simp at this;omega
 have b0:0<s.size:=by omega
 have C:1<s.size:=by omega
 have E:2<s.size:=by omega
 have h0i:(0:Int)<s.size:=by omega
 have h1i:(1:Int)<s.size:=by omega
 have h2i:(2:Int)<s.size:=by omega
 have h3:¬ (s.size:Int)<3:=by omega
 have hc:s[0]'b0=92:=byte_at b0 (by rw[f];rfl);have ha:s[1]'C=a:=byte_at C (by rw[f];rfl);have hb:s[2]'E=b:=byte_at E (by rw[f];rfl);have u:cf 92=ZA:=by decide
 have PB:=er 92;rw[u] at PB;clear f t u;have D:=fh a;have A:=fh b;have h:=(gF a).2;have j:=(gF b).2;have g:((byteOf a b).toNat:Int)=16*aT a+aT b:=by unfold byteOf;rw[NY];omega
 have i:=er (byteOf a b);rw[o,g] at i;have g:=ae g;clear o;generalize byteOf a b=z at B q g;generalize aT a=x at n D i h g;generalize aT b=y at m A i j g;have p:=ae (orB x y n h m j);rw[<-p.out] at i;have q1:¬ x<0:=by omega
 have q2:¬ y<0:=by omega
 clear h j;go_enter UF,TQ;go_wp2_with fail;refine(PB _).mono ?_;rintro e l ⟨rfl,c⟩;rw[c];clear c;go_wp2_with (go_at_call 243;(first|go_fit (D _)|go_fit (A _));rintro e l ⟨rfl,c⟩;rw[c];clear c);refine(i _).mono ?_;rintro e l ⟨rfl,c⟩;rw[c];clear c;go_wp2;go_ret3;have:=yj B.out q.out (w:=w) 0;rw[g.out,<-p.out] at this;exact this
theorem qp (s:ByteArray)(w:M)(o:s.size<=maxLen)(x:0<s.size)(A:EV w 6):Calls Pg 301 #[Y s] w λe l=>jd s.data.toList w e l:=by
 unfold maxLen at o;obtain⟨hz,u,t,n⟩:=A;obtain⟨c,r,j,p⟩:=EX x;have hc:s[0]=c:=byte_at x (by rw[j];rfl);have h0i:(0:Int)<s.size:=by omega
 have y:=ae p;have g:=ae j;rw[j];clear j p;cases hp:cf c with
 |true =>have h:=ae (show dD (c::r)=T (c,r) by rw[dD,p6 hp]);have z:=ae (show(enc c).length=1 by unfold enc;rw[p6 hp];rfl);go_enter UF,TQ;go_wp2_with (go_at_call 196;refine(er c _).mono ?_;rintro e l ⟨rfl,rfl⟩;rw[hp]);go_ret3;exact yj h (by rw[z.out];rfl) 0
 |false =>
  have f:¬ cf c=ZG:=by rw[hp];simp
  by_cases i:c=92
  ·subst i;rcases r with _|⟨a,_|⟨b,q⟩⟩
   ·have h:=ae (show dD (92::[])=U by rw[dD,gM f,p6 rfl];rfl);have h3:(s.size:Int)<3:=by have:=y.out;simp at this;omega
    clear f;go_enter UF,TQ;go_wp2_with (go_at_call 196;refine(er 92 _).mono ?_;rintro e l ⟨rfl,rfl⟩;rw[hp]);go_quiet (fail);go_wp2;go_ret3;exact lA h nq
   ·have h:=ae (show dD (92::[a])=U by rw[dD,gM f,p6 rfl];rfl);have h3:(s.size:Int)<3:=by have:=y.out;simp at this;omega
    clear f;go_enter UF,TQ;go_wp2_with (go_at_call 196;refine(er 92 _).mono ?_;rintro e l ⟨rfl,rfl⟩;rw[hp]);go_quiet (fail);go_wp2;go_ret3;exact lA h nq
   ·by_cases m:0<=aT a/\0<=aT b
    ·cases hq:cf (byteOf a b) with
     |true=>exact g.out ▸ xj s a b q w g (by unfold maxLen;exact o) ⟨hz,u,t,n⟩ m.1 m.2 hq
     |false=>exact g.out ▸ Jh s a b q w g (by unfold maxLen;exact o) ⟨hz,u,t,n⟩ m.1 m.2 hq
    {exact g.out ▸ Jg s a b q w g (by unfold maxLen;exact o) ⟨hz,u,t,n⟩ m}
  ·have h:=ae (show dD (c::r)=U by rw[dD,gM f,gM i]);have hne:((c.toNat:Int) != 92)=ZG:=by have:c.toNat≠92:=λe=>i (by rw[<-SN];exact e);simp;omega
   clear f i;go_enter UF,TQ;go_wp2_with (go_at_call 196;refine(er c _).mono ?_;rintro e l ⟨rfl,rfl⟩;rw[hp]);go_quiet (fail);go_wp2;go_ret3;exact lA h nq
theorem qq:∀(out t rest:List UInt8),t.flatMap enc=out.flatMap enc++rest->∃u,t=out++u/\rest=u.flatMap enc
 |[],t,rest,h=>⟨t,rfl,by simpa using h.symm⟩
 |c::out,[],rest,h=>by have h1:=wA List.length h;have h2:=jF c;simp at h1;omega
 |c::out,d::t,rest,h=>by rw[J2,J2,ON] at h;have h1:=wA dD h;rw[jP,jP] at h1;simp only[OJ,LK] at h1;obtain⟨u,h2,h3⟩:=qq out t rest h1.2;exact⟨u,by rw[h1.1,h2];rfl,h3⟩
theorem EY{out rest:List UInt8}(b:rest≠[])(f:dD rest=U)(t:List UInt8):out.flatMap enc++rest≠t.flatMap enc:=by
 intro h;obtain⟨u,-,h2⟩:=qq out t rest h.symm;cases u with
 |nil=>exact b (by simpa using h2)
 |cons c u =>rw[h2,J2,jP] at f;cases f
theorem ixI (s:ByteArray)(x:Int)(i:Nat)(b:x=i)(h:i<s.size)(w:M):(Instr.index 9 (Y s) (J I x)).run Pg w=.ok (J .u8 (s.data.toList[i]'(by rw[aO];exact h)).toNat) w:=by subst b;rw[run_index_string w 9 s I (i:Int) F3];simp[h];rfl
theorem yk:∀l:List UInt8,l.length<=(l.flatMap enc).length
 |[]=>by simp
 |c::r=>by have:=jF c;have:=yk r;simp only[J2,cM,eL];omega
def Ji:ZC->Nat
 |Y s=>s.size
 |_=>0
theorem kU{mid:List UInt8}(h:s=34::mid++[34])(t:List UInt8):s=aF t ↔ mid=t.flatMap enc:=by
 rw[dx,h];constructor;{intro e;have:=List.cons.inj e;exact(SY this.2 rfl).1};{intro e;rw[e]}
theorem zO (s:List UInt8)(t:List UInt8)(h:s=aF t):2<=s.length/\s[0]?=T 34/\s[s.length - 1]?=T 34:=by rw[h,dx];refine⟨by simp,by simp,?_⟩;rw[IX (by simp)];simp
theorem Jj (h2:2<=s.length)(f:s[0]?=T 34)(h1:s[s.length - 1]?=T 34):s=34::(s.drop 1).take (s.length - 2)++[34]:=by
 cases s with
 |nil=>simp at h2
 |cons c r =>
  simp only[eL] at h2 h1 ⊢;simp at f;subst f;have b:r≠[]:=λe=>by rw[e] at h2;simp at h2
  have h:r.getLast b=34:=by rw[List.getLast_eq_getElem];have hp:0<r.length:=GC.2 b;rw[show r.length+1 - 1=(r.length - 1)+1 by omega,U0] at h1;obtain⟨_,h3⟩:=n8.1 h1;exact h3
  have g:=List.dropLast_concat_getLast b;rw[h] at g;rw[show r.length+1 - 2=r.length - 1 by omega,List.drop_succ_cons,List.drop_zero,<-List.dropLast_eq_take];exact wA (List.cons 34) g.symm
def tY (S:List UInt8)(e:Ending):Prop:=(∃t,S=aF t/\e=ZF (.tuple #[Y ⟨t.toArray⟩,.nilIface]))∨((∀t,S≠aF t)/\∃t p,e=ZF (.tuple #[Y ⟨#[]⟩,.iface t p]))
theorem Jk (s:ByteArray)(a:Nat):s.extract a s.size=⟨(s.data.toList.drop a).toArray⟩:=by refine N5 (QS ?_);simp only[PH,P6,PC];rw[IU (by simp)]
theorem mr (s:ByteArray)(w:M)(hs:s.size<=16777216)(r:EV w 6)(hn:s.size<2∨(2<=s.size/\s.data.toList[0]?≠T 34)∨(2<=s.size/\s.data.toList[0]?=T 34/\s.data.toList[s.size - 1]?≠T 34)):Calls Pg 281 #[Y s] w λe l=>tY s.data.toList e/\Below w.heap.size w l:=by
 have p:Hid (∀t,s.data.toList≠aF t):=λt e=>by
  have h:=zO _ t e;rw[aO] at h;rcases hn with h1|⟨_,h1⟩|⟨_,_,h1⟩
  {omega};{exact h1 h.2.1};{exact h1 h.2.2}
 obtain⟨hz,u,q,hev⟩:=r;have o:(s.size:Int)<2∨(¬ (s.size:Int)<2/\∃c:UInt8,((c.toNat:Int) != 34)=ZG/\∀V,(Instr.index 9 (Y s) (J I 0)).run Pg V=.ok (J .u8 c.toNat) V)∨(¬ (s.size:Int)<2/\(∀V,(Instr.index 9 (Y s) (J I 0)).run Pg V=.ok (J .u8 34) V)/\∃c:UInt8,((c.toNat:Int) != 34)=ZG/\∀V,(Instr.index 9 (Y s) (J I ((s.size:Int) - 1))).run Pg V=.ok (J .u8 c.toNat) V):=by
  have b:∀c:UInt8,c≠34->((c.toNat:Int) != 34)=ZG:=λc h=>by have:¬ (c.toNat:Int)=34:=λe=>h (by rw[<-SN];show c.toNat=34;omega);simpa using this
  rcases hn with h1|⟨h2,h1⟩|⟨h2,j,h1⟩
  {exact .inl (by omega)}
  ·have f:0<s.data.toList.length:=by rw[aO];omega
   rw[gq f] at h1;exact .inr (.inl ⟨by omega,s.data.toList[0],b _ (λe=>h1 (by rw[e])),λV=>ixI s 0 0 rfl (by omega) V⟩)
  ·have f:0<s.data.toList.length:=by rw[aO];omega
   have i:s.size - 1<s.data.toList.length:=by rw[aO];omega
   rw[gq f] at j;rw[gq i] at h1;refine .inr (.inr ⟨by omega,λV=>?_,s.data.toList[s.size - 1],b _ (λe=>h1 (by rw[e])),λV=>ixI s _ (s.size - 1) (by omega) (by omega) V⟩);have:=ixI s 0 0 rfl (by omega) V;rw[BC j] at this;exact this
 clear hn;rcases o with g|⟨g,c,m,n⟩|⟨g,n,c,m,X1⟩
 all_goals
  go_enter func281,ntmps281;go_wp2_with fail;go_quiet (fail);go_wp2;go_ret2;exact⟨.inr ⟨p,u,q,rfl⟩,BM br _⟩
theorem zP (s:ByteArray)(w:M)(hs:s.size<=16777216)(hE:EV w 6)(h2:2<=s.size)(y:s.data.toList[0]?=T 34)(B:s.data.toList[s.size - 1]?=T 34):Calls Pg 281 #[Y s] w λe w'=>tY s.data.toList e/\Below w.heap.size w w':=by
 have S:=ae (Jj (s:=s.data.toList) (by rw[aO];exact h2) y (by rw[aO];exact B));have p1:¬ (s.size:Int)<2:=by omega
 have L:0<s.data.toList.length:=by rw[aO];omega
 have K:s.size - 1<s.data.toList.length:=by rw[aO];omega
 rw[gq L] at y;rw[gq K] at B;have X0:∀V,(Instr.index 9 (Y s) (J I 0)).run Pg V=.ok (J .u8 34) V:=λV=>by have:=ixI s 0 0 rfl (by omega) V;rw[BC y] at this;exact this
 have X1:∀V,(Instr.index 9 (Y s) (J I ((s.size:Int) - 1))).run Pg V=.ok (J .u8 34) V:=λV=>by have:=ixI s ((s.size:Int) - 1) (s.size - 1) (by omega) (by omega) V;rw[BC B] at this;exact this
 clear y B L K;have ZL:Hid (s.extract 1 (s.size - 1)=⟨((s.data.toList.drop 1).take (s.data.toList.length - 2)).toArray⟩):=by show _=_;refine N5 (QS ?_);rw[aO];simp only[PH,P6,PC];rw[show s.size - 1 - 1=s.size - 2 by omega]
 have q1:(1:Int)<=(s.size:Int) - 1:=by omega
 have q2:(s.size:Int) - 1<=s.size:=by omega
 have ZI:=ae (Bd.new w);have B0:=ae ((q9 w).alloc ly (N #[.pointer U,Z U 0 0] 127));have E:=ae hE;have X:((s.data.toList.drop 1).take (s.data.toList.length - 2)).length<=16777216:=by rw[OD,LD,aO];omega
 generalize (s.data.toList.drop 1).take (s.data.toList.length - 2)=n at S ZL X;go_enter func281,ntmps281;go_wp2;rw[ZL.out];go_loopw [5] (λi wr=>∃(out rest:List UInt8),i=Y ⟨rest.toArray⟩/\Hid (n=out.flatMap enc++rest)/\Hid (Bd wr w.heap.size w.heap.size out)/\Hid (Below w.heap.size w wr)) (λi _=>Ji i);case atStart=>exact⟨[],n,rfl,rfl,ZI,B0⟩
 case round =>
  clear ZI B0;obtain⟨out,rest,rfl,A,R,C⟩:=hrel;have D:w.heap.size<wr.heap.size:=R.lt.2;have q:out.length+rest.length<=16777216:=by have h1:=wA List.length A.out;have h3:=yk out;rw[cM] at h1;omega
  have HV:=ae (E.aa C E.1);cases rest with
  |nil =>have HQ:Hid (s.data.toList=aF out):=(kU S out).2 (by rw[A.out];simp);go_wp2_with fail;refine(qj w.heap.size w.heap.size out _ R (P0 D)).mono ?_;rintro e w1 ⟨rfl,ZQ⟩;have z:=ae (C.trans ZQ);clear ZQ;go_wp2;go_ret2;exact⟨.inl ⟨out,HQ,rfl⟩,z⟩
  |cons c r =>
   obtain⟨b,f⟩:∃b:ByteArray,b=⟨(c::r).toArray⟩:=⟨_,rfl⟩
   rw[<-f];have ZO:b.size=r.length+1:=by rw[f];simp[ByteArray.size]
   have hz:b.toList.isEmpty=ZA:=by rw[BG,f];simp
   have u:b.data.toList=c::r:=by rw[f]
   have ZM:=ae (qp b wr (by unfold maxLen;simp only[eL] at q;omega) (by omega) HV);have H:=ae (λh t=>EY (out:=out) (rest:=c::r) (by simp) h t);have P:=ae (λd g (h:dD (c::r)=T (d,g))=>AM h);rw[u] at ZM;have l:=ae (λZK=>Jk b ZK);rw[u] at l;have hsr2:(b.size:Int)<=16777216:=by simp only[eL] at q;omega
   have F:=ae ZO;clear f u ZO;go_wp2_with fail;refine ZM.mono ?_;rintro e w1 ⟨h1,m,rfl⟩;cases hu:dD (c::r) with
   |none =>rw[hu] at h1;obtain⟨te,pe,rfl⟩:=h1;have HN:Hid (∀t,s.data.toList≠aF t):=λt h=>H hu t (by rw[<-A.out];exact(kU S t).1 h);go_wp2;go_ret2;exact⟨.inr ⟨HN,te,pe,rfl⟩,BM C m⟩
   |some x =>
    obtain⟨d,g⟩:=x;rw[hu] at h1;subst h1;have o:=P.out d g hu;have ZL:=ae o;have aq:=jF d;have j:r.length+1=(enc d).length+g.length:=by have:=wA List.length o;simpa using this
    have g1:((enc d).length:Int)<=b.size:=by have:=F.out;omega
    have p:Hid (b.extract (enc d).length b.size=⟨g.toArray⟩):=by show _=_;rw[l.out (enc d).length,o,List.drop_left]
    have O:=ae j;have W:Hid (n=(out++[d]).flatMap enc++g):=by show _=_;rw[A.out,o];simp
    have ZJ:=ae (R.aa (BM (q9 wr) m) ly);have z:=ae (BM C m);have ZN:w.heap.size<=(wr.drewN m).heap.size:=P0 D;clear o j l H P ZM hu;generalize wr.drewN m=W1 at ZJ z ZN ⊢;generalize (enc d).length=ZK at aq g1 p O ⊢;go_wp2_with fail;refine(d9 w.heap.size w.heap.size out d _ ZJ (by simp only[eL] at q;omega) ZN).mono ?_;rintro e w2 ⟨rfl,ZP,G⟩;have D2:=ae ZP;have B2:=ae (z.trans G);clear ZP G;go_wp2;exact⟨⟨out++[d],g,by rw[p.out],W,D2,B2⟩,by have h3:=O.out;have h4:=F.out;rw[p.out];show g.length<b.size;omega⟩
theorem oz (s:ByteArray)(w:M)(b:s.size<=16777216)(c:EV w 6):Calls Pg 281 #[Y s] w λe f=>tY s.data.toList e/\Below w.heap.size w f:=by
 by_cases h1:s.size<2;{exact mr s w b c (.inl h1)};{by_cases h2:s.data.toList[0]?=T 34;{by_cases h3:s.data.toList[s.size - 1]?=T 34;{exact zP s w b c (by omega) h2 h3};{exact mr s w b c (.inr (.inr ⟨by omega,h2,h3⟩))}};{exact mr s w b c (.inr (.inl ⟨by omega,h2⟩))}}
def aP:Nat->List UInt8->List (List UInt8)
 |0,s=>[s]
 |n+1,s=>if (af 32 s).2.2=ZG then (af 32 s).1::aP n (af 32 s).2.1 else [s]
theorem Hq{n:Nat}(y:List UInt8)(h:(32:UInt8) ∉ x):aP (n+1) (x++32::y)=x::aP n y:=by rw[aP,lp y h,p6 rfl]
theorem Hr{n:Nat}(h:(32:UInt8) ∉ x):aP n x=[x]:=by
 cases n with
 |zero=>rfl
 |succ n=>rw[aP,gE h,gM (by simp)]
theorem Hs{k:Nat}(hf:f<=k)(c:k<S.length)(b:S[k]=32):S.drop f=(S.drop f).take (k - f)++32::S.drop (k+1):=by have h1:=(PI (k - f) (S.drop f)).symm;rw[List.drop_drop,show f+(k - f)=k by omega,QY c,b] at h1;exact h1
theorem EZ{k:Nat}(hf:f<=k)(hk:k<S.length)(b:S[k]≠32)(hn:(32:UInt8) ∉ (S.drop f).take (k - f)):(32:UInt8) ∉ (S.drop f).take (k+1 - f):=by
 have c:k - f<(S.drop f).length:=by rw[LD];omega
 rw[show k+1 - f=(k - f)+1 by omega,QO c];intro h;rcases p8.1 h with h|h;{exact hn h};{simp only[List.getElem_drop,nD] at h;simp only[show f+(k - f)=k by omega] at h;exact b h.symm}
theorem oA (s:ByteArray)(ZO:Nat)(hN:ZO<=3)(w:M)(hs:s.size<=16777216):Calls Pg 200 #[Y s,J I ZO] w λe R=>∃g cap,e=ZF (Z (T (Q g 0 U)) (aP ZO s.data.toList).length cap)/\R.ownsRow w.heap.size 9 1 (Z (T (Q g 0 U)) (aP ZO s.data.toList).length cap) (aP ZO s.data.toList).length (cK (aP ZO s.data.toList))/\(aP ZO s.data.toList).length<=4/\Below w.heap.size w R:=by
 have W:Hid (s.data.toList.length=s.size):=by show _=_;simp
 obtain⟨ZJ,hi,D,F,H⟩:=kO oZ;go_enter func200,ntmps200;go_wp2;go_loopw [1,5,6,7] (λnv v p i wr=>∃(k f g cap m:Nat) (L:List (List UInt8)),f<=k/\k<=s.size/\nv=J I m/\i=J I k/\p=J I f/\v=Z (T (Q g 0 U)) L.length cap/\Hid (wr.ownsRow w.heap.size 9 1 v L.length (cK L))/\Hid (aP ZO s.data.toList=L++aP m (s.data.toList.drop f))/\Hid ((32:UInt8) ∉ (s.data.toList.drop f).take (k - f))/\L.length+m<=3/\Hid (Below w.heap.size w wr)) (λ_ _ _ i _=>s.size - (intOf i).toNat);case atStart=>exact⟨0,0,w.heap.size,0,ZO,[],by omega,by omega,rfl,rfl,rfl,rfl,Bi w _ _,by simp[Hid],by simp[Hid],by simpa using hN,br.alloc ly _⟩
 case round =>
  obtain⟨k,f,g,cap,m,L,B,hks,rfl,rfl,rfl,rfl,u,ZP,ZM,hLk,y⟩:=hrel;have z:w.heap.size<=wr.heap.size:=y.size;have c1:(0:Int)<=f:=by omega
  have c2:(f:Int)<=k:=by omega
  have c3:(k:Int)<=s.size:=by omega
  have c4:(f:Int)<=s.size:=by omega
  have fin:∀hc:aP ZO s.data.toList=L++[s.data.toList.drop f],True:=λ_=>trivial;clear fin;by_cases r:k<s.size/\0<m
  ·obtain⟨r,hm0⟩:=r;obtain⟨o,rfl⟩:∃o,m=o+1:=⟨m - 1,by omega⟩
   have j1:(0:Int)<((o+1:Nat):Int):=by omega
   have j2:((o+1:Nat):Int)=(o:Int)+1:=by omega
   have S:(k:Int)<s.size:=by omega
   have G:k<s.data.toList.length:=by rw[W.out];exact r
   have O:=λV=>ixS s (k:Int) k rfl r V;have E:=ae (λh=>Hs B G h);have A:=ae (λh=>EZ B G h ZM);generalize s.data.toList[k]=c at O E A;by_cases x:c=32;{subst x;have O:∀V,(Instr.index 9 (Y s) (J I (k:Int))).run Pg V=.ok (J .u8 32) V:=O;have ZL:=ae (E rfl);have K:=ae (qX s f k);go_wp2_with (at_builtin;refine BS _ rfl (.tmp 23) (.tmp 28) 30 rfl w.heap.size 9 ZJ (Y ⟨#[]⟩) 1 16 IB hi D F H rfl (by decide) _ L.length (cK L) (by simp[Act.eval]) (u.alloc _) (Q wr.heap.size 0 U) 1 1 [Y (s.extract f k)] (by simp[Act.eval]) rfl (cu wr _ _) (by simp[Value.oneCell']) (by unfold maxLen;omega) (by omega) (by simp;omega) ?_;intro X ZI b l n;obtain⟨ZQ,q,rfl⟩:=dq b (by omega);have P:=ae b;have ZN:=ae (bg (y.alloc z (N #[Y (s.extract f k)] 9)) l (by simp;omega) (λj e=>(u.lt j e).1));clear b l n);refine⟨⟨k+1,k+1,ZQ,q,o,L++[(s.data.toList.drop f).take (k - f)],by omega,by omega,by go_num,by go_num,by go_num,by simp,?_,?_,by simp[Hid],by simp;omega,ZN⟩,by simp[intOf];omega⟩;{show World.ownsRow _ _ _ _ _ _ _;rw[kl,<-K.out];simp only[cM,eL,nX,FM];exact P};{show _=_;rw[ZP.out,ZL.out,Hq _ ZM.out];rw[<-ZL.out];simp}};{have hne:((c.toNat:Int) == 32)=ZA:=(by have:¬ (c.toNat:Int)=32:=λe=>x (by rw[<-SN];show c.toNat=32;omega);simpa using this);go_wp2;exact⟨⟨k+1,f,g,cap,o+1,L,by omega,by omega,by go_num,by go_num,rfl,rfl,u,ZP,A x,by omega,y⟩,by simp[intOf];omega⟩}
  ·have K:=ae (nR s f);have C:Hid (aP ZO s.data.toList=L++[s.data.toList.drop f]):=by
    show _=_;rw[ZP.out];by_cases ZK:m=0;{subst ZK;rfl}
    ·obtain rfl:k=s.size:=by omega
     have:=ZM.out;rw[IU (by rw[LD,W.out];omega)] at this;rw[Hr this]
   rcases(show(k:Int)<s.size/\(m:Int)=0∨¬ (k:Int)<s.size by omega) with ⟨S,i2⟩|S;all_goals
    go_wp2_with (at_builtin;refine BS _ rfl (.tmp 34) (.tmp 38) 30 rfl w.heap.size 9 ZJ (Y ⟨#[]⟩) 1 16 IB hi D F H rfl (by decide) _ L.length (cK L) (by simp[Act.eval]) (u.alloc _) (Q wr.heap.size 0 U) 1 1 [Y (s.extract f s.size)] (by simp[Act.eval]) rfl (cu wr _ _) (by simp[Value.oneCell']) (by unfold maxLen;omega) (by omega) (by simp;omega) ?_;intro X ZI b l n;obtain⟨ZQ,q,rfl⟩:=dq b (by omega);have P:=ae b;have ZN:=ae (bg (y.alloc z (N #[Y (s.extract f s.size)] 9)) l (by simp;omega) (λj e=>(u.lt j e).1));clear b l n);go_ret;have t:(aP ZO s.data.toList).length=L.length+1:=by rw[C.out];simp
    refine⟨ZQ,q,by rw[t];rfl,?_,by omega,ZN⟩;rw[t,C.out,kl,<-K.out];exact P
def vd (S:List UInt8)(e:Ending):Prop:=(∃n,eO S n/\e=ZF (.tuple #[J I n,.nilIface]))∨((∀n,¬ eO S n)/\∃t p,e=ZF (.tuple #[J I 0,.iface t p]))
theorem E7 (s:ByteArray)(w:M)(hs:s.size<=16777216)(l:EV w 11)(hR:EV w 12):Calls Pg 300 #[Y s] w λe b=>((∃v,Lib.atoiAll s.data.toList=.ok v/\e=ZF (.tuple #[J I v,.nilIface]))∨((∀v,Lib.atoiAll s.data.toList≠.ok v)/\∃n t p,e=ZF (.tuple #[J I n,.iface t p])))/\Below w.heap.size w b:=by
 obtain⟨_,j,i,h1⟩:=l;obtain⟨_,f,g,h2⟩:=hR;cases h:Lib.atoiAll s.data.toList with
 |ok v =>
  refine(Tryz.strconv_Atoi_ok s (by omega) v h w).mono ?_;rintro e b ⟨rfl,m⟩;refine⟨.inl ⟨v,rfl,rfl⟩,?_⟩;rcases m with rfl|⟨t,rfl⟩
  {exact dB _ _};{exact Joins.below_bytesWorld _ _ _ _ ly}
 |range =>refine(Tryz.strconv_Atoi_range s (by omega) h _ w h2 (.inr ⟨f,g,rfl⟩)).mono ?_;rintro e b ⟨ZO,rfl,_,_,hb⟩;exact⟨.inr ⟨λv c=>(by cases c),_,_,_,rfl⟩,hb⟩
 |_ =>refine(Tryz.strconv_Atoi_syntax s (by omega) h _ w h1 (.inr ⟨j,i,rfl⟩)).mono ?_;rintro e b ⟨ZO,rfl,_,_,hb⟩;exact⟨.inr ⟨λv c=>(by cases c),_,_,_,rfl⟩,hb⟩
theorem Cc (n:Int)(w:M)(f:-9223372036854775808<=n)(h1:n<=9223372036854775807)(c:Pow w):Calls Pg 55 #[J I n] w λe b=>e=ZF (Y ⟨(Lib.itoa n).toArray⟩)/\Below w.heap.size w b:=by refine(Tryz.strconv_Itoa n f h1 _ c).mono ?_;rintro e b ⟨rfl,j,os,g⟩;refine⟨rfl,?_⟩;rw[g];exact jp (os:=os) rfl rfl rfl rfl (by simp)
theorem iF (s:ByteArray)(w:M)(E:s.size<=16777216)(y:EV w 11)(hR:EV w 12)(q:EV w 5)(o:Pow w):Calls Pg 280 #[Y s] w λe B=>vd s.data.toList e/\Below w.heap.size w B:=by
 have m:=ae (E7 s w E y hR);have A:=ae o;have x:=ae q;clear y hR o q;go_enter func280,ntmps280;go_wp2_with fail;refine m.mono ?_;rintro e w1 ⟨h1,b⟩;have i:=ae b;have D:=ae (A.aa b ly);obtain⟨hz,G,F,g⟩:=x.aa b x.1;clear b m;rcases h1 with ⟨v,j,rfl⟩|⟨u,n,t,p,rfl⟩
 ·obtain⟨r,z⟩:=Lib.atoiAll_bounds j;have C:=ae j;clear j;go_wp2_with fail;refine(Cc v _ r z D).mono ?_;rintro e w2 ⟨rfl,f⟩;have l:=ae (i.trans (f.mono i.size));have ⟨hz2,te2,pe2,hev2⟩:=EV.aa ⟨hz,G,F,g⟩ f hz;clear f g;cases heq:(Lib.itoa v == s.toList) with
  |true =>
   have c:Hid (eO s.data.toList v):=⟨by have:=eq_of_beq heq;rw[BG] at this;exact this.symm,r,z⟩
   go_wp2;go_ret2;exact⟨.inl ⟨v,c,rfl⟩,l⟩
  |false =>
   have c:Hid (∀n,¬ eO s.data.toList n):=λn h=>by
    have h3:=iA h;rw[C.out] at h3;cases h3
    have h4:=h.1;rw[BG,<-h4] at heq;simp at heq
   go_wp2_with fail;go_quiet (fail);go_wp2;go_ret2;exact⟨.inr ⟨c,_,_,rfl⟩,BM l _⟩
 {have c:Hid (∀n,¬ eO s.data.toList n):=λn h=>u n (iA h);go_wp2_with fail;go_quiet (fail);go_wp2;go_ret2;exact⟨.inr ⟨c,_,_,rfl⟩,BM i _⟩}
structure Lay (w:M):Prop where
 tw:TabW w
 tb:Tab w
 q:EV w 6
 n:EV w 5
 wd:EV w 0
 op:EV w 7
 bd:EV w 8
 sy:EV w 11
 ra:EV w 12
 pw:Pow w
 pl:2<w.heap.size
theorem ym (h:Tab w)(hb:Below B w b)(f:1<B):Tab b :=
 ⟨lj h.1 hb.size,λk c=>⟨(hb.cell (p:=(Q 1 _ U)) f).trans (h.2 k c).1,(hb.cell (p:=(Q 1 _ U)) f).trans (h.2 k c).2⟩⟩
theorem Lay.aa{c:M}(h:Lay w)(hb:Below B w c)(b:w.heap.size<=B):Lay c :=
 ⟨h.tw.aa hb (lj h.tb.1 b),ym h.tb hb (lj h.tb.1 b),h.q.aa hb (lj h.q.1 b),h.n.aa hb (lj h.n.1 b),h.wd.aa hb (lj h.wd.1 b),h.op.aa hb (lj h.op.1 b),h.bd.aa hb (lj h.bd.1 b),h.sy.aa hb (lj h.sy.1 b),h.ra.aa hb (lj h.ra.1 b),h.pw.aa hb b,lj h.pl hb.size⟩
theorem Lay.low{g f:M}(b:Lay g)(h:Lay w)(hb:Below B w f)(c:g.heap.size<=B):Lay f :=
 ⟨h.tw.aa hb (lj b.tb.1 c),ym h.tb hb (lj b.tb.1 c),h.q.aa hb (lj b.q.1 c),h.n.aa hb (lj b.n.1 c),h.wd.aa hb (lj b.wd.1 c),h.op.aa hb (lj b.op.1 c),h.bd.aa hb (lj b.bd.1 c),h.sy.aa hb (lj b.sy.1 c),h.ra.aa hb (lj b.ra.1 c),h.pw.low hb (lj b.pl c),lj h.pl hb.size⟩
def RdPost (o:Option I3)(e:Ending):Prop:=match o with
 |some i=>e=ZF (.tuple #[.agg #[J I i.1,Y ⟨i.2.1.toArray⟩,J I i.2.2],.nilIface])
 |none=>∃t p,e=ZF (.tuple #[.agg #[J I 0,Y ⟨#[]⟩,J I 0],.iface t p])
theorem RdPost.err (h:o=U){t:TypeId}{p:ZC}:RdPost o (ZF (.tuple #[.agg #[J I 0,Y ⟨#[]⟩,J I 0],.iface t p])):=by rw[h];exact⟨t,p,rfl⟩
theorem RdPost.ok{k:Int}{t:List UInt8}(h:o=T (k,t,n)):RdPost o (ZF (.tuple #[.agg #[J I k,Y ⟨t.toArray⟩,J I n],.nilIface])):=by rw[h];rfl
theorem iG{b:List UInt8}(h:∀op s n,opF (af 32 b).1=op->aH op s.length n=ZG->¬ (if kind op=1 then (af 32 b).2.1=aF s else if kind op=0 then (af 32 b).2.2=ZA else (af 32 b).2.1=Lib.itoa n)):bE b=U :=
 pR λi hi=>by obtain⟨h1,h2,h3⟩:=jw.1 hi;exact h _ _ _ h1 h2 h3
theorem pk{line:List UInt8}(h1:opF (af 32 line).1=op)(h2:aH op s.length n=ZG)(h3:if kind op=1 then (af 32 line).2.1=aF s else if kind op=0 then (af 32 line).2.2=ZA else (af 32 line).2.1=Lib.itoa n):bE line=T (op,s,n) :=
 lS (i:=(op,s,n)) (jw.2 ⟨h1,h2,h3⟩)
theorem Cd{sz:Nat}(h:aH op sz n=ZG):(-9223372036854775808<=n/\n<=9223372036854775807):=by obtain⟨h1,_,h3,h4⟩:=ed h;have:=(gH h1).2.2;omega
theorem ve (b:ByteArray)(w:M)(hs:b.size<=16777216)(hL:Lay w)(u:opF (af 32 b.data.toList).1=0):Calls Pg 282 #[Y b] w λe D=>RdPost (bE b.data.toList) e/\Below w.heap.size w D:=by
 have C:=cy 32 b.data.toList;rw[aO] at C;have B:=λV=>fv b 32 V (by unfold maxLen;omega);have ZP:Hid (bE b.data.toList=U):=iG λop s n h1 h2 _=>by rw[u] at h1;obtain⟨h3,_⟩:=ed h2;omega
 have i:=λV h1 h2=>mj ⟨(af 32 b.data.toList).1.toArray⟩ V h1 h2;have h:opF ((⟨(af 32 b.data.toList).1.toArray⟩:ByteArray).data.toList)=0:=u;rw[h] at i;clear h;have r:=ae ((q9 w).alloc ly (N #[J I 0,Y ⟨#[]⟩,J I 0] 151));have y:=ae (CI.new w (J I 0) (Y ⟨#[]⟩) (J I 0));have x:=ae (hL.aa r ly);have z0:(w.alloc (N #[J I 0,Y ⟨#[]⟩,J I 0] 151)).heap.size=w.heap.size+1:=by simp
 have HL0:=ae hL;clear hL;go_enter func282,XO;go_wp2_with fail;generalize w.alloc (N #[J I 0,Y ⟨#[]⟩,J I 0] 151)=G at r y x z0 ⊢;refine(B _).mono ?_;rintro e f ⟨rfl,m,g⟩;have o:Below G.heap.size G f:=by rw[g];exact BM br m
 have H:=ae (r.trans (o.mono (by omega)));have F:=ae (y.aa o (by omega));have l:=ae (x.aa o ly);have z1:f.heap.size=w.heap.size+1:=by rw[g];exact z0
 clear g o r y x z0 B;go_wp2_with fail;refine(i f l.tw l.tb.1).mono ?_;rintro e D ⟨rfl,t⟩;rw[t];clear t i;have q:=ae (CI.new f (J I 0) (Y ⟨#[]⟩) (J I 0));rw[z1] at q;have j:=(q9 f).alloc ly (N #[J I 0,Y ⟨#[]⟩,J I 0] 151);have z:=ae (H.trans (j.mono (by omega)));have c:=ae (F.aa j (by omega));have A:=ae (l.aa j ly);clear j;go_upto_region 4 with fail;generalize f.alloc (N #[J I 0,Y ⟨#[]⟩,J I 0] 151)=E at q z c A ⊢;clear H F l z1;have z2:w.heap.size<E.heap.size:=c.lt;have z2':w.heap.size+1<E.heap.size:=q.lt;have i0:=q.c0;obtain⟨hzw,te,pe,hev⟩:=A.wd;have d0:=c.c0;have d1:=c.c1;have d2:=c.c2;have df0:=c.fz 0;have df1:=c.fz 1;have df2:=c.fz 2;go_wp2;try simp only[Exit.inBlock,Exit.then]
 refine bp (eI rfl _ _ w.heap.size _ _ _ rfl (c.all _ _ _)) rfl ?_;exact⟨RdPost.err ZP,((z.setCell (p:=(Q w.heap.size 0 U)) ly _).setCell (p:=(Q w.heap.size 1 U)) ly _).setCell (p:=(Q w.heap.size 2 U)) ly _⟩
theorem oB (f:ByteArray)(w:M)(hs:f.size<=16777216)(hL:Lay w)(k:Nat)(h1:1<=(k:Int))(h2:(k:Int)<=15)(z:opF (af 32 f.data.toList).1=k)(aq:0<aE k∨¬ 0<aE k/\0<bO k):Calls Pg 282 #[Y f] w λe w'=>RdPost (bE f.data.toList) e/\Below w.heap.size w w':=by
 have sm:=ae aq;clear aq;have ph:=cy 32 f.data.toList;rw[aO] at ph;have CU:=λV=>fv f 32 V (by unfold maxLen;omega);have O:=λV h1 h2=>mj ⟨(af 32 f.data.toList).1.toArray⟩ V h1 h2;have ZL:opF ((⟨(af 32 f.data.toList).1.toArray⟩:ByteArray).data.toList)=(k:Int):=z;rw[ZL] at O;clear ZL;have A0:=ae ((q9 w).alloc ly (N #[J I 0,Y ⟨#[]⟩,J I 0] 151));have R0:=ae (CI.new w (J I 0) (Y ⟨#[]⟩) (J I 0));have L0:=ae (hL.aa A0 ly);have z0:(w.alloc (N #[J I 0,Y ⟨#[]⟩,J I 0] 151)).heap.size=w.heap.size+1:=by simp
 have ZO:=ae hL;clear hL;go_enter func282,XO;go_wp2_with fail;generalize w.alloc (N #[J I 0,Y ⟨#[]⟩,J I 0] 151)=WA at A0 R0 L0 z0 ⊢;refine(CU _).mono ?_;rintro e K ⟨rfl,m,ZM⟩;have D1:Below WA.heap.size WA K:=by rw[ZM];exact BM br m
 have A1:=ae (A0.trans (D1.mono (by omega)));have R1:=ae (R0.aa D1 (by omega));have X:=ae (L0.aa D1 ly);have z1:K.heap.size=w.heap.size+1:=by rw[ZM];exact z0
 clear ZM D1 A0 R0 L0 z0 CU;go_wp2_with fail;refine(O K X.tw X.tb.1).mono ?_;rintro e w' ⟨rfl,bt⟩;rw[bt];clear bt O;have ZP:=ae (CI.new K (J I (k:Int)) (Y ⟨#[]⟩) (J I 0));rw[z1] at ZP;have X2:=(q9 K).alloc ly (N #[J I (k:Int),Y ⟨#[]⟩,J I 0] 151);have B2:=ae (A1.trans (X2.mono (by omega)));have R2:=ae (R1.aa X2 (by omega));have A:=ae (X.aa X2 ly);clear X2;go_upto_region 4 with fail;generalize K.alloc (N #[J I (k:Int),Y ⟨#[]⟩,J I 0] 151)=W2 at ZP B2 R2 A ⊢;clear A1 R1 X z1;have z2:w.heap.size<W2.heap.size:=R2.lt;have z2':w.heap.size+1<W2.heap.size:=ZP.lt;have i0:=ZP.c0;have k0:((k:Int) == 0)=ZA:=by simp;omega
 have k16:(k:Int)<16:=by omega
 obtain⟨t1,t2⟩:=A.tb.2 k (by omega);have mv:=A.tb.1;rcases sm.out with hm|⟨hm,ld⟩
 case' inl =>have o:kind k=1:=(eN ⟨h1,h2⟩).1.2 hm;have UQ:=λV h=>oz ⟨(af 32 f.data.toList).2.1.toArray⟩ V (by show(af 32 f.data.toList).2.1.length<=_;omega) h;generalize aE (k:Int)=mt at t1 hm;generalize bO (k:Int)=mn at t2;go_wp2_with fail;refine(UQ _ A.q).mono ?_
 case' inr =>have o:¬ kind k=1:=λh=>absurd ((eN ⟨h1,h2⟩).1.1 h) (by omega);have ZQ:¬ kind k=0:=λh=>((eN ⟨h1,h2⟩).2.1 h).2 ld;have UQ:=λV a b c d=>iF ⟨(af 32 f.data.toList).2.1.toArray⟩ V (by show(af 32 f.data.toList).2.1.length<=_;omega) a b c d;generalize aE (k:Int)=mt at t1 hm;generalize bO (k:Int)=mn at t2 ld;go_wp2_with fail;refine(UQ _ A.sy A.ra A.n A.pw).mono ?_
 all_goals
  clear t1 t2 i0;rintro e D ⟨hu,E⟩;have I3:=ae (ZP.aa E ZP.lt);have G:=ae (R2.aa E z2);have L:=ae (B2.trans (E.mono (P0 z2)));have ZK:=ae (A.aa E ly);clear E UQ ZP R2 B2 A mv;have z3:w.heap.size<D.heap.size:=G.lt;have z3':w.heap.size+1<D.heap.size:=I3.lt;have c0:=I3.c0;have c1:=I3.c1;have c2:=I3.c2
 focus
  have qr:=I3.fz 2;rcases hu with ⟨i,hn,rfl⟩|⟨S,te,pe,rfl⟩
  rotate_left
  ·have ZN:Hid (bE f.data.toList=U):=iG λop s n u y x=>by
    rw[z] at u;subst u;rw[gM o,gM ZQ] at x;exact S n ⟨x,Cd y⟩
   have g:=ae (G.other (Q (w.heap.size+1) 2 U) (by show w.heap.size+1≠w.heap.size;omega) (J I 0));have B:=ae (L.setCell (p:=(Q (w.heap.size+1) 2 U)) (by show w.heap.size<=w.heap.size+1;omega) (J I 0));have d0:=g.c0;have d1:=g.c1;have d2:=g.c2;have la:=g.fz 0;have dg:=g.fz 1;have fd:=g.fz 2;go_wp2;try simp only[Exit.inBlock,Exit.then]
   refine bp (eI rfl _ _ w.heap.size _ _ _ rfl (g.all _ _ _)) rfl ?_;exact⟨RdPost.err ZN,((B.setCell (p:=(Q w.heap.size 0 U)) ly _).setCell (p:=(Q w.heap.size 1 U)) ly _).setCell (p:=(Q w.heap.size 2 U)) ly _⟩
  have r:=ae (I3.set2 (J I i));have g:=ae (G.other (Q (w.heap.size+1) 2 U) (by show w.heap.size+1≠w.heap.size;omega) (J I i));have R:Below (w.heap.size+1) D (D.setCell (Q (w.heap.size+1) 2 U) (J I i)):=br.setCell (p:=(Q (w.heap.size+1) 2 U)) ly _;have B:=ae (L.setCell (p:=(Q (w.heap.size+1) 2 U)) (by show w.heap.size<=w.heap.size+1;omega) (J I i));have H:=ae (Lay.low ZO ZK R (by omega));clear R I3 G L ZK;have l:=ae (λ(h:aH (k:Int) ([]:List UInt8).length i=ZG)=>pk (line:=f.data.toList) (s:=[]) (n:=i) z h (by rw[gM o,gM ZQ];exact hn.1));have j:Hid (aH (k:Int) ([]:List UInt8).length i=ZA->bE f.data.toList=U):=λW=>iG λop s n' u y x=>by
   rw[z] at u;subst u;rw[gM o,gM ZQ] at x;have e4:=iA (s:=(af 32 f.data.toList).2.1) ⟨x,Cd y⟩;have e5:Lib.atoiAll (af 32 f.data.toList).2.1=.ok i:=iA hn;rw[e5] at e4;cases e4
   obtain⟨_,e6,_,_⟩:=ed y;have e9:=(gH ⟨h1,h2⟩).1 o;have ZJ:s.length=0:=by omega
   rw[ZJ] at y;rw[show([]:List UInt8).length=0 from rfl,y] at W;exact absurd W (by simp)
  go_upto_region 12 with fail;clear c0 c1 c2 qr;generalize D.setCell (Q (w.heap.size+1) 2 U) (J I i)=ZI at r g B H ⊢;have r:Hid (CI ZI (w.heap.size+1) (J I (k:Int)) (Y ⟨([]:List UInt8).toArray⟩) (J I i)):=r;generalize ([]:List UInt8)=P at r l j
 rotate_left;focus
  have n9:=I3.fz 1;rcases hu with ⟨t,ht,rfl⟩|⟨S,te,pe,rfl⟩
  rotate_left
  ·have ZN:Hid (bE f.data.toList=U):=iG λop s n u y x=>by
    rw[z] at u;subst u;rw[p6 o] at x;exact S s x
   have g:=ae (G.other (Q (w.heap.size+1) 1 U) (by show w.heap.size+1≠w.heap.size;omega) (Y ⟨#[]⟩));have B:=ae (L.setCell (p:=(Q (w.heap.size+1) 1 U)) (by show w.heap.size<=w.heap.size+1;omega) (Y ⟨#[]⟩));have d0:=g.c0;have d1:=g.c1;have d2:=g.c2;have la:=g.fz 0;have dg:=g.fz 1;have fd:=g.fz 2;go_wp2;try simp only[Exit.inBlock,Exit.then]
   refine bp (eI rfl _ _ w.heap.size _ _ _ rfl (g.all _ _ _)) rfl ?_;exact⟨RdPost.err ZN,((B.setCell (p:=(Q w.heap.size 0 U)) ly _).setCell (p:=(Q w.heap.size 1 U)) ly _).setCell (p:=(Q w.heap.size 2 U)) ly _⟩
  have r:=ae (I3.set1 (Y ⟨t.toArray⟩));have g:=ae (G.other (Q (w.heap.size+1) 1 U) (by show w.heap.size+1≠w.heap.size;omega) (Y ⟨t.toArray⟩));have R:Below (w.heap.size+1) D (D.setCell (Q (w.heap.size+1) 1 U) (Y ⟨t.toArray⟩)):=br.setCell (p:=(Q (w.heap.size+1) 1 U)) ly _;have B:=ae (L.setCell (p:=(Q (w.heap.size+1) 1 U)) (by show w.heap.size<=w.heap.size+1;omega) (Y ⟨t.toArray⟩));have H:=ae (Lay.low ZO ZK R (by omega));clear R I3 G L ZK;have l:=ae (λ(h:aH (k:Int) t.length 0=ZG)=>pk (line:=f.data.toList) (s:=t) (n:=0) z h (by rw[p6 o];exact ht));have j:Hid (aH (k:Int) t.length 0=ZA->bE f.data.toList=U):=λW=>iG λop s n u y x=>by
   rw[z] at u;subst u;rw[p6 o,show(af 32 f.data.toList).2.1=aF t from ht] at x;have e4:=(kU (mid:=t.flatMap enc) (by rw[dx]) s).1 x;have e5:=gS e4;obtain⟨_,_,e7,e8⟩:=ed y;have e9:=(gH ⟨h1,h2⟩).2.1 (.inl o);have ZJ:n=0:=by omega
   rw[<-e5,ZJ,W] at y;exact absurd y (by simp)
  go_upto_region 12 with fail;clear c0 c1 c2 n9;generalize D.setCell (Q (w.heap.size+1) 1 U) (Y ⟨t.toArray⟩)=ZI at r g B H ⊢;generalize (0:Int)=i at r l j;generalize t=P at r l j
 all_goals
  have z4:w.heap.size<ZI.heap.size:=g.lt;have ro:w.heap.size+1<ZI.heap.size:=r.lt;have c0:=r.c0;have c1:=r.c1;have c2:=r.c2;have VI:∀V,Tab V->Calls Pg 220 #[.agg #[J I (k:Int),Y ⟨P.toArray⟩,J I i]] V λe w'=>e=ZF (ZD (aH (k:Int) P.length i))/\Below V.heap.size V w':=λV hV=>jL (k:Int) ⟨P.toArray⟩ i V hV;go_wp2_with fail;refine(VI _ H.tb).mono ?_;rintro e w5 ⟨rfl,F⟩;clear c0 c1 c2 VI;have I5:=ae (r.aa F ro);have C:=ae (g.aa F z4);have B5:=ae (B.trans (F.mono (P0 z4)));obtain⟨hzb,te,pe,hbd⟩:=H.bd.aa F H.bd.1;clear F r g B H;have z5:w.heap.size<w5.heap.size:=C.lt;have g6:¬ w.heap.size=8:=by have:=ZO.bd.1;omega
  have g6':¬ 8=w.heap.size:=by omega
  have d0:=C.c0;have d1:=C.c1;have d2:=C.c2;have la:=C.fz 0;have dg:=C.fz 1;have fd:=C.fz 2;cases hok:aH (k:Int) P.length i with
  |false =>
   have ZN:=ae (j hok);clear j l;go_wp2_with fail;go_region;all_goals
    go_wp2;try simp only[Exit.inBlock,Exit.then]
    refine bp (eI rfl _ _ w.heap.size _ _ _ rfl (C.all _ _ _)) rfl ?_;exact⟨RdPost.err ZN,(((BM B5 _).setCell (p:=(Q w.heap.size 0 U)) ly _).setCell (p:=(Q w.heap.size 1 U)) ly _).setCell (p:=(Q w.heap.size 2 U)) ly _⟩
  |true =>
   have ZN:=ae (l hok);clear j l;have c0:=I5.c0;have c1:=I5.c1;have c2:=I5.c2;go_wp2;try simp only[Exit.inBlock,Exit.then]
   refine bp (eI rfl _ _ w.heap.size _ _ _ rfl (C.all _ _ _)) rfl ?_;exact⟨RdPost.ok ZN,((B5.setCell (p:=(Q w.heap.size 0 U)) ly _).setCell (p:=(Q w.heap.size 1 U)) ly _).setCell (p:=(Q w.heap.size 2 U)) ly _⟩
theorem rm (b:ByteArray)(w:M)(hs:b.size<=16777216)(hL:Lay w)(k:Nat)(h1:1<=(k:Int))(h2:(k:Int)<=15)(y:opF (af 32 b.data.toList).1=k)(E:¬ 0<aE k)(B:¬ 0<bO k)(ZP:(af 32 b.data.toList).2.2=ZG):Calls Pg 282 #[Y b] w λe L=>RdPost (bE b.data.toList) e/\Below w.heap.size w L:=by
 have K:=cy 32 b.data.toList;rw[aO] at K;have H:=λV=>fv b 32 V (by unfold maxLen;omega);have A:¬ kind k=1:=λh=>E ((eN ⟨h1,h2⟩).1.1 h);have z:kind k=0:=(eN ⟨h1,h2⟩).2.2 ⟨E,B⟩;have ZM:Hid (bE b.data.toList=U):=iG λop s n F e2 ZN=>by rw[y] at F;subst F;rw[gM A,p6 z,ZP] at ZN;exact absurd ZN (by simp)
 clear A z;have j:=λV h1 h2=>mj ⟨(af 32 b.data.toList).1.toArray⟩ V h1 h2;have i:opF ((⟨(af 32 b.data.toList).1.toArray⟩:ByteArray).data.toList)=(k:Int):=y;rw[i] at j;clear i;have u:=ae ((q9 w).alloc ly (N #[J I 0,Y ⟨#[]⟩,J I 0] 151));have D:=ae (CI.new w (J I 0) (Y ⟨#[]⟩) (J I 0));have C:=ae (hL.aa u ly);have z0:(w.alloc (N #[J I 0,Y ⟨#[]⟩,J I 0] 151)).heap.size=w.heap.size+1:=by simp
 have HL0:=ae hL;clear hL;go_enter func282,XO;go_wp2_with fail;generalize w.alloc (N #[J I 0,Y ⟨#[]⟩,J I 0] 151)=O at u D C z0 ⊢;refine(H _).mono ?_;rintro e f ⟨rfl,m,g⟩;have r:Below O.heap.size O f:=by rw[g];exact BM br m
 have P:=ae (u.trans (r.mono (by omega)));have ZO:=ae (D.aa r (by omega));have o:=ae (C.aa r ly);have z1:f.heap.size=w.heap.size+1:=by rw[g];exact z0
 clear g r u D C z0 H;go_wp2_with fail;refine(j f o.tw o.tb.1).mono ?_;rintro e L ⟨rfl,x⟩;rw[x];clear x j;have t:=ae (CI.new f (J I (k:Int)) (Y ⟨#[]⟩) (J I 0));rw[z1] at t;have l:=(q9 f).alloc ly (N #[J I (k:Int),Y ⟨#[]⟩,J I 0] 151);have G:=ae (P.trans (l.mono (by omega)));have c:=ae (ZO.aa l (by omega));have q:=ae (o.aa l ly);clear l;go_upto_region 4 with fail;generalize f.alloc (N #[J I (k:Int),Y ⟨#[]⟩,J I 0] 151)=ZQ at t G c q ⊢;clear P ZO o z1;have z2:w.heap.size<ZQ.heap.size:=c.lt;have z2':w.heap.size+1<ZQ.heap.size:=t.lt;have i0:=t.c0;have k0:((k:Int) == 0)=ZA:=by simp;omega
 have k16:(k:Int)<16:=by omega
 obtain⟨S,R⟩:=q.tb.2 k (by omega);have hrw:=q.tb.1;generalize aE (k:Int)=mt at S E;generalize bO (k:Int)=mn at R B;obtain⟨hzo,te,pe,hev⟩:=q.op;have d0:=c.c0;have d1:=c.c1;have d2:=c.c2;have df0:=c.fz 0;have df1:=c.fz 1;have df2:=c.fz 2;go_wp2;try simp only[Exit.inBlock,Exit.then]
 refine bp (eI rfl _ _ w.heap.size _ _ _ rfl (c.all _ _ _)) rfl ?_;exact⟨RdPost.err ZM,((G.setCell (p:=(Q w.heap.size 0 U)) ly _).setCell (p:=(Q w.heap.size 1 U)) ly _).setCell (p:=(Q w.heap.size 2 U)) ly _⟩
theorem vf (b:ByteArray)(w:M)(hs:b.size<=16777216)(hL:Lay w)(k:Nat)(h1:1<=(k:Int))(h2:(k:Int)<=15)(z:opF (af 32 b.data.toList).1=k)(S:¬ 0<aE k)(ZN:¬ 0<bO k)(bt:(af 32 b.data.toList).2.2=ZA):Calls Pg 282 #[Y b] w λe F=>RdPost (bE b.data.toList) e/\Below w.heap.size w F:=by
 have ZK:=cy 32 b.data.toList;rw[aO] at ZK;have CU:=λV=>fv b 32 V (by unfold maxLen;omega);have x:¬ kind k=1:=λh=>S ((eN ⟨h1,h2⟩).1.1 h);have t:kind k=0:=(eN ⟨h1,h2⟩).2.2 ⟨S,ZN⟩;have i:=ae (λ(h:aH (k:Int) ([]:List UInt8).length 0=ZG)=>pk (line:=b.data.toList) (s:=[]) (n:=0) z h (by rw[gM x,p6 t];exact bt));have g:Hid (aH (k:Int) ([]:List UInt8).length 0=ZA->bE b.data.toList=U):=λZL=>iG λop s n' W O e3=>by
  rw[z] at W;subst W;obtain⟨_,e6,e7,e8⟩:=ed O;have e9:=(gH ⟨h1,h2⟩).1 x;have e10:=(gH ⟨h1,h2⟩).2.1 (.inr t);have fd:s.length=0:=by omega
  have dg:n'=0:=by omega
  rw[fd,dg] at O;rw[show([]:List UInt8).length=0 from rfl,O] at ZL;exact absurd ZL (by simp)
 clear x t;have u:=λV h1 h2=>mj ⟨(af 32 b.data.toList).1.toArray⟩ V h1 h2;have A:opF ((⟨(af 32 b.data.toList).1.toArray⟩:ByteArray).data.toList)=(k:Int):=z;rw[A] at u;clear A;have H:=ae ((q9 w).alloc ly (N #[J I 0,Y ⟨#[]⟩,J I 0] 151));have R:=ae (CI.new w (J I 0) (Y ⟨#[]⟩) (J I 0));have P:=ae (hL.aa H ly);have z0:(w.alloc (N #[J I 0,Y ⟨#[]⟩,J I 0] 151)).heap.size=w.heap.size+1:=by simp
 have ZI:=ae hL;clear hL;go_enter func282,XO;go_wp2_with fail;generalize w.alloc (N #[J I 0,Y ⟨#[]⟩,J I 0] 151)=WA at H R P z0 ⊢;refine(CU _).mono ?_;rintro e j ⟨rfl,m,y⟩;have E:Below WA.heap.size WA j:=by rw[y];exact BM br m
 have A1:=ae (H.trans (E.mono (by omega)));have R1:=ae (R.aa E (by omega));have B:=ae (P.aa E ly);have z1:j.heap.size=w.heap.size+1:=by rw[y];exact z0
 clear y E H R P z0 CU;go_wp2_with fail;refine(u j B.tw B.tb.1).mono ?_;rintro e F ⟨rfl,ZP⟩;rw[ZP];clear ZP u;have o:=ae (CI.new j (J I (k:Int)) (Y ⟨#[]⟩) (J I 0));rw[z1] at o;have D:=(q9 j).alloc ly (N #[J I (k:Int),Y ⟨#[]⟩,J I 0] 151);have ZM:=ae (A1.trans (D.mono (by omega)));have C:=ae (R1.aa D (by omega));have q:=ae (B.aa D ly);clear D;go_upto_region 4 with fail;generalize j.alloc (N #[J I (k:Int),Y ⟨#[]⟩,J I 0] 151)=ZQ at o ZM C q ⊢;clear A1 R1 B z1;have z2:w.heap.size<ZQ.heap.size:=C.lt;have la:w.heap.size+1<ZQ.heap.size:=o.lt;have i0:=o.c0;have k0:((k:Int) == 0)=ZA:=by simp;omega
 have k16:(k:Int)<16:=by omega
 obtain⟨t1,t2⟩:=q.tb.2 k (by omega);have ZJ:=q.tb.1;generalize aE (k:Int)=mt at t1 S;generalize bO (k:Int)=mn at t2 ZN;go_upto_region 12 with fail;clear t1 t2 i0 ZJ;have l:=o;have G:=C;have K:=ZM;have r:=q;clear o C ZM q;generalize ZQ=W4 at l G K r z2 la ⊢;have z4:w.heap.size<W4.heap.size:=G.lt;have aq:w.heap.size+1<W4.heap.size:=l.lt;have c0:=l.c0;have c1:=l.c1;have c2:=l.c2;have VI:∀V,Tab V->Calls Pg 220 #[.agg #[J I (k:Int),Y ⟨([]:List UInt8).toArray⟩,J I 0]] V λe F=>e=ZF (ZD (aH (k:Int) ([]:List UInt8).length 0))/\Below V.heap.size V F:=λV hV=>jL (k:Int) ⟨([]:List UInt8).toArray⟩ 0 V hV;go_wp2_with fail;refine(VI _ r.tb).mono ?_;rintro e w5 ⟨rfl,f⟩;clear c0 c1 c2 VI;have L:=ae (l.aa f aq);have c:=ae (G.aa f z4);have X:=ae (K.trans (f.mono (P0 z4)));obtain⟨hzb,te,pe,hbd⟩:=r.bd.aa f r.bd.1;clear f l G K r;have z5:w.heap.size<w5.heap.size:=c.lt;have g6:¬ w.heap.size=8:=by have:=ZI.bd.1;omega
 have g6':¬ 8=w.heap.size:=by omega
 have d0:=c.c0;have d1:=c.c1;have d2:=c.c2;have df0:=c.fz 0;have df1:=c.fz 1;have df2:=c.fz 2;cases hok:aH (k:Int) ([]:List UInt8).length 0 with
 |false =>
  have ZO:=ae (g hok);clear g i;go_wp2_with fail;go_region;all_goals
   go_wp2;try simp only[Exit.inBlock,Exit.then]
   refine bp (eI rfl _ _ w.heap.size _ _ _ rfl (c.all _ _ _)) rfl ?_;exact⟨RdPost.err ZO,(((BM X _).setCell (p:=(Q w.heap.size 0 U)) ly _).setCell (p:=(Q w.heap.size 1 U)) ly _).setCell (p:=(Q w.heap.size 2 U)) ly _⟩
 |true =>
  have ZO:=ae (i hok);clear g i;have c0:=L.c0;have c1:=L.c1;have c2:=L.c2;go_wp2;try simp only[Exit.inBlock,Exit.then]
  refine bp (eI rfl _ _ w.heap.size _ _ _ rfl (c.all _ _ _)) rfl ?_;exact⟨RdPost.ok ZO,((X.setCell (p:=(Q w.heap.size 0 U)) ly _).setCell (p:=(Q w.heap.size 1 U)) ly _).setCell (p:=(Q w.heap.size 2 U)) ly _⟩
theorem xk (b:ByteArray)(w:M)(f:b.size<=16777216)(hL:Lay w):Calls Pg 282 #[Y b] w λe i=>RdPost (bE b.data.toList) e/\Below w.heap.size w i:=by
 rcases qU (af 32 b.data.toList).1 with ⟨j,_⟩|⟨h1,h2,_⟩
 {exact ve b w f hL j}
 ·obtain⟨k,c⟩:=AS (show 0<=opF (af 32 b.data.toList).1 by omega);have h1:1<=(k:Int):=by rw[<-c];exact h1
  have h2:(k:Int)<=15:=by rw[<-c];exact h2
  by_cases h:0<aE k;{exact oB b w f hL k h1 h2 c (.inl h)}
  ·by_cases g:0<bO k;{exact oB b w f hL k h1 h2 c (.inr ⟨h,g⟩)}
   ·cases hsp:(af 32 b.data.toList).2.2 with
    |true=>exact rm b w f hL k h1 h2 c h g hsp
    |false=>exact vf b w f hL k h1 h2 c h g hsp
