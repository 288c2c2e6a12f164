import Derived.Test.YtpmnbjkjpnclaaaGreatDoorQD
import Derived.Lib.AtoiAllCases
import Derived.Test.YtpmnbjkjpnclaaaGreatDoorRH
import Derived.Deep.DeepFit
set_option maxRecDepth 100000
set_option maxHeartbeats 4000000
set_option linter.unusedSimpArgs false
open Go renaming Addr.mk->Q,Value.slice->Z,Value.string->U,Value.int->N,Value.bool->ZD,Value.agg->ZH,Obj.cells->J,IntKind.i64->I,World->M,Value->ZC,Ending.returned->ZF,Proofs.Tryz.prog->Pg
open Option renaming none->Y,some->T
open Bool renaming false->ZA,true->ZG
namespace Go.Proofs.YtpmnbjkjpnclaaaGreatDoor.Vp
open Tryz RowKit
variable {w:M}{B f:Nat}{n op:Int}{s l x S:List UInt8}{c:UInt8}{o:Option I3}
theorem mw (s:ByteArray)(w:M)(m:TabW w)(hz:1<w.heap.size):Calls Pg 302 #[U s] w λe p=>e=ZF (N I (opF s.data.toList))/\p=w:=by
 have o:=ae m;clear m;go_enter func302,ntmps302;go_wp2;go_loopw [3] (λi wr=>∃k:Nat,1<=k/\k<=16/\i=N I k/\Hid (∀j:Int,1<=j->j<k->s.data.toList≠word j)/\wr=w) (λi _=>16 - (intOf i).toNat);case atStart=>exact⟨1,by omega,by omega,rfl,λj h1 h2=>by omega,rfl⟩
 case round =>
  obtain⟨k,hk1,hk2,rfl,g,rfl⟩:=hrel;by_cases f:k<16
  ·have c0:=o.out k f;have c:(k:Int)<=15:=by omega
   have h16:(k:Int)<16:=by omega
   cases hb:(word k == s.toList) with
   |true =>
    have l:s.data.toList=word k:=by have:=eq_of_beq hb;rw[BG] at this;exact this.symm
    have b:=ae (show opF s.data.toList=k by rw[l];exact jR ⟨by omega,c⟩);clear l;go_wp2;go_ret;exact⟨by rw[b.out];rfl,rfl⟩
   |false =>
    have n:=ae (show s.data.toList≠word k from λe=>by
     rw[BG,e] at hb
     simp at hb)
    go_wp2;refine⟨⟨k+1,by omega,by omega,by go_num,λj h1 h2=>?_,trivial⟩,by simp[intOf];omega⟩;by_cases e:j=k;{rw[e];exact n.out};{exact g.out j h1 (by omega)}
  ·obtain rfl:k=16:=by omega
   have b:=ae (show opF s.data.toList=0 from by
    rcases qX s.data.toList with h|⟨h1,h2,h3⟩
    {exact h.1}
    ·exact absurd h3 (g.out _ h1 (by omega)))
   go_wp2;go_ret;exact⟨by rw[b.out];rfl,rfl⟩
theorem vh (c:UInt8):∀s:List UInt8,(Lib.indexByte s c=-1/\af c s=(s,[],ZA))∨∃i:Nat,Lib.indexByte s c=i/\i<s.length/\af c s=(s.take i,s.drop (i+1),ZG)
 |[]=>.inl ⟨rfl,rfl⟩
 |b::l=>by
  by_cases e:b=c
  ·subst e
   exact .inr ⟨0,by simp[Lib.indexByte],by simp,by simp[af]⟩
  ·have hb:(b == c)=ZA:=by simpa using e
   rcases vh c l with ⟨h1,h2⟩|⟨i,h1,h2,h3⟩
   ·exact .inl ⟨by simp[Lib.indexByte,hb,h1],by rw[af,gM e,h2]⟩
   ·refine .inr ⟨i+1,?_,by simp only[eL];omega,?_⟩
    ·have:((i:Int) == -1)=ZA:=by
      have h:¬ (i:Int)=-1:=by omega
      exact beq_false_of_ne h
     simp[Lib.indexByte,hb,h1,this]
    ·rw[af,gM e,h3]
     simp
theorem xn (s:ByteArray)(c:UInt8)(w:M)(g:s.size<=maxLen):Calls Pg 279 #[U s,U ⟨#[c]⟩] w λe b=>e=ZF (.tuple #[U ⟨(af c s.data.toList).1.toArray⟩,U ⟨(af c s.data.toList).2.1.toArray⟩,ZD (af c s.data.toList).2.2])/\∃m,b=w.drewN m:=by
 unfold maxLen at g;rcases vh c s.data.toList with ⟨h1,h2⟩|⟨i,h1,h2,h3⟩
 {rw[h2];go_enter func279,ntmps279;go_wp2_with (go_at_call 299;refine(Tryz.stringslite_Index_one s c _).mono ?_;rintro e b ⟨rfl,rfl⟩;rw[h1]);go_ret3;exact⟨by simp,0,rfl⟩}
 ·rw[h3];have hl:i<s.size:=by simpa using h2
  have c1:(0:Int)<=↑i:=by omega
  have c2:(↑i:Int)<=↑s.size:=by omega
  have c3:(0:Int)<=↑i+1:=by omega
  have c4:(↑i+1:Int)<=↑s.size:=by omega
  have c5:(s.size:Int)<=9223372036854775807:=by omega
  have f:=ae (show s.extract 0 i=⟨(s.data.toList.take i).toArray⟩ from by
   refine ON (QZ ?_)
   simp[PO])
  have h:=ae (show s.extract (i+1) s.size=⟨(s.data.toList.drop (i+1)).toArray⟩ from by
   refine ON (QZ ?_);simp only[PO,QE,PJ]
   rw[IU (by simp)])
  go_enter func279,ntmps279;go_wp2_with (go_at_call 299;refine(Tryz.stringslite_Index_one s c _).mono ?_;rintro e b ⟨rfl,rfl⟩;rw[h1]);go_quiet (fail);go_wp2;go_ret3;exact⟨by rw[<-f.out,<-h.out];rfl,nq,rfl⟩
theorem fx (s:ByteArray)(c:UInt8)(w:M)(f:s.size<=maxLen):Calls Pg 244 #[U s,U ⟨#[c]⟩] w λe b=>e=ZF (.tuple #[U ⟨(af c s.data.toList).1.toArray⟩,U ⟨(af c s.data.toList).2.1.toArray⟩,ZD (af c s.data.toList).2.2])/\∃m,b=w.drewN m:=by go_enter func244,ntmps244;go_wp2_with (go_at_call 279;refine(xn s c _ f).mono ?_;rintro e b ⟨rfl,m,rfl⟩);go_ret3;exact⟨rfl,m,rfl⟩
theorem Jq (c:UInt8):Lib.indexByte [48,49,50,51,52,53,54,55,56,57,97,98,99,100,101,102] c=aT c:=by refine us (p:=λc=>Lib.indexByte [48,49,50,51,52,53,54,55,56,57,97,98,99,100,101,102] c=aT c) ?_ c;decide +kernel
theorem fi (c:UInt8)(w:M):Calls Pg 243 #[U ⟨#[48,49,50,51,52,53,54,55,56,57,97,98,99,100,101,102]⟩,N .u8 c.toNat] w λe b=>e=ZF (N I (aT c))/\b=w:=by
 refine(Tryz.strings_IndexByte _ (c.toNat:Int) w).mono ?_;rintro e b ⟨rfl,rfl⟩;refine⟨?_,rfl⟩;have:((c.toNat:Int).toNat).toUInt8=c:=by simp
 rw[this];exact wA (λx=>Ending.returned (N I x)) (Jq c)
def EV (w:M)(g:Nat):Prop:=g<w.heap.size/\∃t p,w.cell? (Q g 0 Y)=T (.iface t p)
theorem EV.aa{b:M}{g:Nat}(h:EV w g)(hb:Below B w b)(c:g<B):EV b g:=by obtain⟨h1,t,p,h2⟩:=h;exact⟨lj h1 hb.size,t,p,(hb.cell (p:=(Q g 0 Y)) c).trans h2⟩
theorem aO (s:ByteArray):s.data.toList.length=s.size:=by simp
theorem byte_at{s:ByteArray}{i:Nat}(h:i<s.size)(b:s.data.toList[i]?=T c):s[i]=c:=by obtain⟨h1,h2⟩:=n8.1 b;rw[Array.getElem_toList] at h2;exact h2
theorem Fe{s:ByteArray}(h0:0<s.size):∃c r,s.data.toList=c::r/\s.size=r.length+1:=by
 have h:=aO s;cases e:s.data.toList with
 |nil=>rw[e] at h;simp at h;omega
 |cons c r=>rw[e] at h;exact⟨c,r,rfl,by simp at h;omega⟩
theorem orB (k l:Int)(b:0<=k)(h1:k<16)(h2:0<=l)(h3:l<16):bits BinOp.or IntKind.i64 (wrap64 (k*16)) l % 256=16*k+l:=by
 have H:∀n m:Fin 16,bits BinOp.or IntKind.i64 (wrap64 ((n.val:Int)*16)) (m.val:Int) % 256=16*(n.val:Int)+(m.val:Int):=by decide +kernel
 have:=H ⟨k.toNat,by omega⟩ ⟨l.toNat,by omega⟩;simp only[UT b,UT h2] at this;exact this
def je (l:List UInt8)(w:M)(e:Ending)(b:M):Prop:=(match dE l with|some (c,_)=>e=ZF (.tuple #[N .u8 c.toNat,N I (enc c).length,.nilIface])|none=>∃t p,e=ZF (.tuple #[N .u8 0,N I 0,.iface t p]))/\∃m,b=w.drewN m
theorem lD (h:dE l=Y){b:TypeId}{c:ZC}(m:Nat):je l w (ZF (.tuple #[N .u8 0,N I 0,.iface b c])) (w.drewN m):=by unfold je;rw[h];exact⟨⟨b,c,rfl⟩,m,rfl⟩
theorem yo{r:List UInt8}(h:dE l=T (c,r))(hn:n=(enc c).length)(m:Nat):je l w (ZF (.tuple #[N .u8 c.toNat,N I n,.nilIface])) (w.drewN m):=by unfold je;rw[h];exact⟨by rw[hn],m,rfl⟩
theorem Jr (s:ByteArray)(a b:UInt8)(j:List UInt8)(w:M)(c:s.data.toList=92::a::b::j)(r:s.size<=maxLen)(q:EV w 6)(hn:¬ (0<=aT a/\0<=aT b)):Calls Pg 301 #[U s] w λe g=>je s.data.toList w e g:=by
 have u:Hid (dE s.data.toList=Y):=by show _=_;rw[c,dE,gM (by decide),p6 rfl];show(if _ then _ else _)=_;rw[gM (λh=>hn ⟨h.1,h.2.1⟩)]
 unfold maxLen at r;obtain⟨hz,te,pe,hev⟩:=q;have p:s.size=j.length+3:=by have:=aO s;rw[c] at this;simp at this;omega
 have b0:0<s.size:=by omega
 have m:1<s.size:=by omega
 have i:2<s.size:=by omega
 have h0i:(0:Int)<s.size:=by omega
 have h1i:(1:Int)<s.size:=by omega
 have h2i:(2:Int)<s.size:=by omega
 have h3:¬ (s.size:Int)<3:=by omega
 have hc:s[0]'b0=92:=byte_at b0 (by rw[c];rfl);have ha:s[1]'m=a:=byte_at m (by rw[c];rfl);have hb:s[2]'i=b:=byte_at i (by rw[c];rfl);have l:cf 92=ZA:=by decide
 have PB:=er 92;rw[l] at PB;clear c p l;have o:=fi a;have n:=fi b;generalize aT a=x at hn o;generalize aT b=y at hn n;have z:x<0∨(¬ x<0/\y<0):=by omega
 clear hn;rcases z with t|⟨t,p2⟩
 all_goals
  go_enter UL,TY;go_wp2_with fail;refine(PB _).mono ?_;rintro e g ⟨rfl,f⟩;rw[f];clear f;go_wp2_with (go_at_call 243;(first|go_fit (o _)|go_fit (n _));rintro e g ⟨rfl,f⟩;rw[f];clear f);go_quiet (fail);go_wp2;go_ret3;exact lD u nq
theorem xo (s:ByteArray)(a b:UInt8)(o:List UInt8)(w:M)(f:s.data.toList=92::a::b::o)(D:s.size<=maxLen)(C:EV w 6)(r:0<=aT a)(u:0<=aT b)(m:cf (byteOf a b)=ZG):Calls Pg 301 #[U s] w λe l=>je s.data.toList w e l:=by
 have E:Hid (dE s.data.toList=Y):=by show _=_;rw[f,dE,gM (by decide),p6 rfl];show(if _ then _ else _)=_;rw[gM (λh=>by rw[m] at h;exact absurd h.2.2 (by simp))]
 unfold maxLen at D;obtain⟨hz,te,pe,hev⟩:=C;have A:s.size=o.length+3:=by have:=aO s;rw[f] at this;simp at this;omega
 have b0:0<s.size:=by omega
 have q:1<s.size:=by omega
 have n:2<s.size:=by omega
 have h0i:(0:Int)<s.size:=by omega
 have h1i:(1:Int)<s.size:=by omega
 have h2i:(2:Int)<s.size:=by omega
 have h3:¬ (s.size:Int)<3:=by omega
 have hc:s[0]'b0=92:=byte_at b0 (by rw[f];rfl);have ha:s[1]'q=a:=byte_at q (by rw[f];rfl);have hb:s[2]'n=b:=byte_at n (by rw[f];rfl);have p:cf 92=ZA:=by decide
 have PB:=er 92;rw[p] at PB;clear f A p;have z:=fi a;have t:=fi b;have j:=(gH a).2;have i:=(gH b).2;have B:((byteOf a b).toNat:Int)=16*aT a+aT b:=by unfold byteOf;rw[OD];omega
 have g:=er (byteOf a b);rw[m,B] at g;clear B m;generalize aT a=x at r z g j;generalize aT b=y at u t g i;rw[<-orB x y r j u i] at g;have q1:¬ x<0:=by omega
 have q2:¬ y<0:=by omega
 clear j i;go_enter UL,TY;go_wp2_with fail;refine(PB _).mono ?_;rintro e l ⟨rfl,c⟩;rw[c];clear c;go_wp2_with (go_at_call 243;(first|go_fit (z _)|go_fit (t _));rintro e l ⟨rfl,c⟩;rw[c];clear c);refine(g _).mono ?_;rintro e l ⟨rfl,c⟩;rw[c];clear c;go_wp2_with fail;go_quiet (fail);go_wp2;go_ret3;exact lD E nq
theorem Js (s:ByteArray)(a b:UInt8)(r:List UInt8)(w:M)(f:s.data.toList=92::a::b::r)(G:s.size<=maxLen)(F:EV w 6)(l:0<=aT a)(m:0<=aT b)(o:cf (byteOf a b)=ZA):Calls Pg 301 #[U s] w λe n=>je s.data.toList w e n:=by
 have E:Hid (dE s.data.toList=T (byteOf a b,r)):=by show _=_;rw[f,dE,gM (by decide),p6 rfl];show(if _ then _ else _)=_;rw[p6 ⟨l,m,o⟩]
 have p:Hid ((3:Int)=(enc (byteOf a b)).length):=by show _=_;rw[pT l m o];rfl
 unfold maxLen at G;obtain⟨hz,te,pe,hev⟩:=F;have D:s.size=r.length+3:=by have:=aO s;rw[f] at this;simp at this;omega
 have b0:0<s.size:=by omega
 have A:1<s.size:=by omega
 have t:2<s.size:=by omega
 have h0i:(0:Int)<s.size:=by omega
 have h1i:(1:Int)<s.size:=by omega
 have h2i:(2:Int)<s.size:=by omega
 have h3:¬ (s.size:Int)<3:=by omega
 have hc:s[0]'b0=92:=byte_at b0 (by rw[f];rfl);have ha:s[1]'A=a:=byte_at A (by rw[f];rfl);have hb:s[2]'t=b:=byte_at t (by rw[f];rfl);have u:cf 92=ZA:=by decide
 have PB:=er 92;rw[u] at PB;clear f D u;have C:=fi a;have B:=fi b;have j:=(gH a).2;have i:=(gH b).2;have g:((byteOf a b).toNat:Int)=16*aT a+aT b:=by unfold byteOf;rw[OD];omega
 have h:=er (byteOf a b);rw[o,g] at h;have g:=ae g;clear o;generalize byteOf a b=z at E p g;generalize aT a=x at l C h j g;generalize aT b=y at m B h i g;have q:=ae (orB x y l j m i);rw[<-q.out] at h;have q1:¬ x<0:=by omega
 have q2:¬ y<0:=by omega
 clear j i;go_enter UL,TY;go_wp2_with fail;refine(PB _).mono ?_;rintro e n ⟨rfl,c⟩;rw[c];clear c;go_wp2_with (go_at_call 243;(first|go_fit (C _)|go_fit (B _));rintro e n ⟨rfl,c⟩;rw[c];clear c);refine(h _).mono ?_;rintro e n ⟨rfl,c⟩;rw[c];clear c;go_wp2;go_ret3;have:=yo E.out p.out (w:=w) 0;rw[g.out,<-q.out] at this;exact this
theorem qy (s:ByteArray)(w:M)(n:s.size<=maxLen)(u:0<s.size)(z:EV w 6):Calls Pg 301 #[U s] w λe m=>je s.data.toList w e m:=by
 unfold maxLen at n;obtain⟨hz,p,t,j⟩:=z;obtain⟨c,r,i,o⟩:=Fe u;have hc:s[0]=c:=byte_at u (by rw[i];rfl);have h0i:(0:Int)<s.size:=by omega
 have x:=ae o;have f:=ae i;rw[i];clear i o;cases hp:cf c with
 |true =>have g:=ae (show dE (c::r)=T (c,r) by rw[dE,p6 hp]);have y:=ae (show(enc c).length=1 by unfold enc;rw[p6 hp];rfl);go_enter UL,TY;go_wp2_with (go_at_call 196;refine(er c _).mono ?_;rintro e m ⟨rfl,rfl⟩;rw[hp]);go_ret3;exact yo g (by rw[y.out];rfl) 0
 |false =>
  have hpl:¬ cf c=ZG:=by rw[hp];simp
  by_cases h:c=92
  ·subst h;rcases r with _|⟨a,_|⟨b,q⟩⟩
   ·have g:=ae (show dE (92::[])=Y by rw[dE,gM hpl,p6 rfl];rfl);have h3:(s.size:Int)<3:=by have:=x.out;simp at this;omega
    clear hpl;go_enter UL,TY;go_wp2_with (go_at_call 196;refine(er 92 _).mono ?_;rintro e m ⟨rfl,rfl⟩;rw[hp]);go_quiet (fail);go_wp2;go_ret3;exact lD g nq
   ·have g:=ae (show dE (92::[a])=Y by rw[dE,gM hpl,p6 rfl];rfl);have h3:(s.size:Int)<3:=by have:=x.out;simp at this;omega
    clear hpl;go_enter UL,TY;go_wp2_with (go_at_call 196;refine(er 92 _).mono ?_;rintro e m ⟨rfl,rfl⟩;rw[hp]);go_quiet (fail);go_wp2;go_ret3;exact lD g nq
   ·by_cases l:0<=aT a/\0<=aT b
    ·cases hq:cf (byteOf a b) with
     |true=>exact f.out ▸ xo s a b q w f (by unfold maxLen;exact n) ⟨hz,p,t,j⟩ l.1 l.2 hq
     |false=>exact f.out ▸ Js s a b q w f (by unfold maxLen;exact n) ⟨hz,p,t,j⟩ l.1 l.2 hq
    {exact f.out ▸ Jr s a b q w f (by unfold maxLen;exact n) ⟨hz,p,t,j⟩ l}
  ·have g:=ae (show dE (c::r)=Y by rw[dE,gM hpl,gM h]);have hne:((c.toNat:Int) != 92)=ZG:=by have:c.toNat≠92:=λe=>h (by rw[<-SY];exact e);simp;omega
   clear hpl h;go_enter UL,TY;go_wp2_with (go_at_call 196;refine(er c _).mono ?_;rintro e m ⟨rfl,rfl⟩;rw[hp]);go_quiet (fail);go_wp2;go_ret3;exact lD g nq
theorem qA:∀(out t rest:List UInt8),t.flatMap enc=out.flatMap enc++rest->∃u,t=out++u/\rest=u.flatMap enc
 |[],t,rest,h=>⟨t,rfl,by simpa using h.symm⟩
 |c::out,[],rest,h=>by have h1:=wA List.length h;have h2:=jG c;simp at h1;omega
 |c::out,d::t,rest,h=>by rw[KK,KK,OV] at h;have h1:=wA dE h;rw[jQ,jQ] at h1;simp only[OU,LN] at h1;obtain⟨u,h2,h3⟩:=qA out t rest h1.2;exact⟨u,by rw[h1.1,h2];rfl,h3⟩
theorem Ff{out rest:List UInt8}(f:rest≠[])(b:dE rest=Y)(t:List UInt8):out.flatMap enc++rest≠t.flatMap enc:=by
 intro h;obtain⟨u,-,h2⟩:=qA out t rest h.symm;cases u with
 |nil=>exact f (by simpa using h2)
 |cons c u =>rw[h2,KK,jQ] at b;cases b
theorem ixI (s:ByteArray)(x:Int)(i:Nat)(b:x=i)(h:i<s.size)(w:M):(Instr.index 9 (U s) (N I x)).run Pg w=.ok (N .u8 (s.data.toList[i]'(by rw[aO];exact h)).toNat) w:=by subst b;rw[run_index_string w 9 s I (i:Int) F3];simp[h];rfl
theorem yp:∀l:List UInt8,l.length<=(l.flatMap enc).length
 |[]=>by simp
 |c::r=>by have:=jG c;have:=yp r;simp only[KK,cM,eL];omega
def Jt:ZC->Nat
 |U s=>s.size
 |_=>0
theorem kW{mid:List UInt8}(h:s=34::mid++[34])(t:List UInt8):s=aF t ↔ mid=t.flatMap enc:=by
 rw[dy,h];constructor;{intro e;have:=List.cons.inj e;exact(TG this.2 rfl).1};{intro e;rw[e]}
theorem zU (s:List UInt8)(t:List UInt8)(h:s=aF t):2<=s.length/\s[0]?=T 34/\s[s.length - 1]?=T 34:=by rw[h,dy];refine⟨by simp,by simp,?_⟩;rw[IX (by simp)];simp
theorem Ju (h2:2<=s.length)(f:s[0]?=T 34)(h1:s[s.length - 1]?=T 34):s=34::(s.drop 1).take (s.length - 2)++[34]:=by
 cases s with
 |nil=>simp at h2
 |cons c r =>
  simp only[eL] at h2 h1 ⊢;simp at f;subst f;have b:r≠[]:=λe=>by rw[e] at h2;simp at h2
  have h:r.getLast b=34:=by rw[List.getLast_eq_getElem];have hp:0<r.length:=GC.2 b;rw[show r.length+1 - 1=(r.length - 1)+1 by omega,U7] at h1;obtain⟨_,h3⟩:=n8.1 h1;exact h3
  have g:=List.dropLast_concat_getLast b;rw[h] at g;rw[show r.length+1 - 2=r.length - 1 by omega,List.drop_succ_cons,List.drop_zero,<-List.dropLast_eq_take];exact wA (List.cons 34) g.symm
def t8 (S:List UInt8)(e:Ending):Prop:=(∃t,S=aF t/\e=ZF (.tuple #[U ⟨t.toArray⟩,.nilIface]))∨((∀t,S≠aF t)/\∃t p,e=ZF (.tuple #[U ⟨#[]⟩,.iface t p]))
theorem Jv (s:ByteArray)(a:Nat):s.extract a s.size=⟨(s.data.toList.drop a).toArray⟩:=by refine ON (QZ ?_);simp only[PO,QE,PJ];rw[IU (by simp)]
theorem mx (s:ByteArray)(w:M)(hs:s.size<=16777216)(r:EV w 6)(hn:s.size<2∨(2<=s.size/\s.data.toList[0]?≠T 34)∨(2<=s.size/\s.data.toList[0]?=T 34/\s.data.toList[s.size - 1]?≠T 34)):Calls Pg 281 #[U s] w λe q=>t8 s.data.toList e/\Below w.heap.size w q:=by
 have o:Hid (∀t,s.data.toList≠aF t):=λt e=>by
  have h:=zU _ t e;rw[aO] at h;rcases hn with h1|⟨_,h1⟩|⟨_,_,h1⟩
  {omega};{exact h1 h.2.1};{exact h1 h.2.2}
 obtain⟨hz,l,u,hev⟩:=r;have n:(s.size:Int)<2∨(¬ (s.size:Int)<2/\∃c:UInt8,((c.toNat:Int) != 34)=ZG/\∀V,(Instr.index 9 (U s) (N I 0)).run Pg V=.ok (N .u8 c.toNat) V)∨(¬ (s.size:Int)<2/\(∀V,(Instr.index 9 (U s) (N I 0)).run Pg V=.ok (N .u8 34) V)/\∃c:UInt8,((c.toNat:Int) != 34)=ZG/\∀V,(Instr.index 9 (U s) (N I ((s.size:Int) - 1))).run Pg V=.ok (N .u8 c.toNat) V):=by
  have b:∀c:UInt8,c≠34->((c.toNat:Int) != 34)=ZG:=λc h=>by have:¬ (c.toNat:Int)=34:=λe=>h (by rw[<-SY];show c.toNat=34;omega);simpa using this
  rcases hn with h1|⟨h2,h1⟩|⟨h2,g,h1⟩
  {exact .inl (by omega)}
  ·have f:0<s.data.toList.length:=by rw[aO];omega
   rw[gq f] at h1;exact .inr (.inl ⟨by omega,s.data.toList[0],b _ (λe=>h1 (by rw[e])),λV=>ixI s 0 0 rfl (by omega) V⟩)
  ·have f:0<s.data.toList.length:=by rw[aO];omega
   have j:s.size - 1<s.data.toList.length:=by rw[aO];omega
   rw[gq f] at g;rw[gq j] at h1;refine .inr (.inr ⟨by omega,λV=>?_,s.data.toList[s.size - 1],b _ (λe=>h1 (by rw[e])),λV=>ixI s _ (s.size - 1) (by omega) (by omega) V⟩);have:=ixI s 0 0 rfl (by omega) V;rw[BC g] at this;exact this
 clear hn;rcases n with i|⟨i,c,p,m⟩|⟨i,m,c,p,X1⟩
 all_goals
  go_enter func281,ntmps281;go_wp2_with fail;go_quiet (fail);go_wp2;go_ret2;exact⟨.inr ⟨o,l,u,rfl⟩,BM br _⟩
theorem zY (s:ByteArray)(w:M)(hs:s.size<=16777216)(hE:EV w 6)(h2:2<=s.size)(B:s.data.toList[0]?=T 34)(A:s.data.toList[s.size - 1]?=T 34):Calls Pg 281 #[U s] w λe w'=>t8 s.data.toList e/\Below w.heap.size w w':=by
 have ZM:=ae (Ju (s:=s.data.toList) (by rw[aO];exact h2) B (by rw[aO];exact A));have p1:¬ (s.size:Int)<2:=by omega
 have L:0<s.data.toList.length:=by rw[aO];omega
 have P:s.size - 1<s.data.toList.length:=by rw[aO];omega
 rw[gq L] at B;rw[gq P] at A;have X0:∀V,(Instr.index 9 (U s) (N I 0)).run Pg V=.ok (N .u8 34) V:=λV=>by have:=ixI s 0 0 rfl (by omega) V;rw[BC B] at this;exact this
 have X1:∀V,(Instr.index 9 (U s) (N I ((s.size:Int) - 1))).run Pg V=.ok (N .u8 34) V:=λV=>by have:=ixI s ((s.size:Int) - 1) (s.size - 1) (by omega) (by omega) V;rw[BC A] at this;exact this
 clear B A L P;have R:Hid (s.extract 1 (s.size - 1)=⟨((s.data.toList.drop 1).take (s.data.toList.length - 2)).toArray⟩):=by show _=_;refine ON (QZ ?_);rw[aO];simp only[PO,QE,PJ];rw[show s.size - 1 - 1=s.size - 2 by omega]
 have q1:(1:Int)<=(s.size:Int) - 1:=by omega
 have q2:(s.size:Int) - 1<=s.size:=by omega
 have N0:=ae (Bd.new w);have ZK:=ae ((q9 w).alloc ly (J #[.pointer Y,Z Y 0 0] 127));have G:=ae hE;have X:((s.data.toList.drop 1).take (s.data.toList.length - 2)).length<=16777216:=by rw[OR,LK,aO];omega
 generalize (s.data.toList.drop 1).take (s.data.toList.length - 2)=q at ZM R X;go_enter func281,ntmps281;go_wp2;rw[R.out];go_loopw [5] (λi wr=>∃(out rest:List UInt8),i=U ⟨rest.toArray⟩/\Hid (q=out.flatMap enc++rest)/\Hid (Bd wr w.heap.size w.heap.size out)/\Hid (Below w.heap.size w wr)) (λi _=>Jt i);case atStart=>exact⟨[],q,rfl,rfl,N0,ZK⟩
 case round =>
  clear N0 ZK;obtain⟨out,rest,rfl,z,S,C⟩:=hrel;have ZP:w.heap.size<wr.heap.size:=S.lt.2;have n:out.length+rest.length<=16777216:=by have h1:=wA List.length z.out;have h3:=yp out;rw[cM] at h1;omega
  have HV:=ae (G.aa C G.1);cases rest with
  |nil =>have HQ:Hid (s.data.toList=aF out):=(kW ZM out).2 (by rw[z.out];simp);go_wp2_with fail;refine(qq w.heap.size w.heap.size out _ S (QC ZP)).mono ?_;rintro e w1 ⟨rfl,ZO⟩;have y:=ae (C.trans ZO);clear ZO;go_wp2;go_ret2;exact⟨.inl ⟨out,HQ,rfl⟩,y⟩
  |cons c r =>
   obtain⟨b,g⟩:∃b:ByteArray,b=⟨(c::r).toArray⟩:=⟨_,rfl⟩
   rw[<-g];have D:b.size=r.length+1:=by rw[g];simp[ByteArray.size]
   have hz:b.toList.isEmpty=ZA:=by rw[BG,g];simp
   have u:b.data.toList=c::r:=by rw[g]
   have ZN:=ae (qy b wr (by unfold maxLen;simp only[eL] at n;omega) (by omega) HV);have O:=ae (λh t=>Ff (out:=out) (rest:=c::r) (by simp) h t);have ZQ:=ae (λd f (h:dE (c::r)=T (d,f))=>AU h);rw[u] at ZN;have j:=ae (λZJ=>Jv b ZJ);rw[u] at j;have hsr2:(b.size:Int)<=16777216:=by simp only[eL] at n;omega
   have F:=ae D;clear g u D;go_wp2_with fail;refine ZN.mono ?_;rintro e w1 ⟨h1,m,rfl⟩;cases hu:dE (c::r) with
   |none =>rw[hu] at h1;obtain⟨te,pe,rfl⟩:=h1;have HN:Hid (∀t,s.data.toList≠aF t):=λt h=>O hu t (by rw[<-z.out];exact(kW ZM t).1 h);go_wp2;go_ret2;exact⟨.inr ⟨HN,te,pe,rfl⟩,BM C m⟩
   |some x =>
    obtain⟨d,f⟩:=x;rw[hu] at h1;subst h1;have o:=ZQ.out d f hu;have R:=ae o;have ZL:=jG d;have p:r.length+1=(enc d).length+f.length:=by have:=wA List.length o;simpa using this
    have g1:((enc d).length:Int)<=b.size:=by have:=F.out;omega
    have l:Hid (b.extract (enc d).length b.size=⟨f.toArray⟩):=by show _=_;rw[j.out (enc d).length,o,List.drop_left]
    have K:=ae p;have aq:Hid (q=(out++[d]).flatMap enc++f):=by show _=_;rw[z.out,o];simp
    have W:=ae (S.aa (BM (q9 wr) m) ly);have y:=ae (BM C m);have E:w.heap.size<=(wr.drewN m).heap.size:=QC ZP;clear o p j O ZQ ZN hu;generalize wr.drewN m=W1 at W y E ⊢;generalize (enc d).length=ZJ at ZL g1 l K ⊢;go_wp2_with fail;refine(ec w.heap.size w.heap.size out d _ W (by simp only[eL] at n;omega) E).mono ?_;rintro e w2 ⟨rfl,H,ZR⟩;have D2:=ae H;have B2:=ae (y.trans ZR);clear H ZR;go_wp2;exact⟨⟨out++[d],f,by rw[l.out],aq,D2,B2⟩,by have h3:=K.out;have h4:=F.out;rw[l.out];show f.length<b.size;omega⟩
theorem oD (s:ByteArray)(w:M)(c:s.size<=16777216)(b:EV w 6):Calls Pg 281 #[U s] w λe f=>t8 s.data.toList e/\Below w.heap.size w f:=by
 by_cases h1:s.size<2;{exact mx s w c b (.inl h1)};{by_cases h2:s.data.toList[0]?=T 34;{by_cases h3:s.data.toList[s.size - 1]?=T 34;{exact zY s w c b (by omega) h2 h3};{exact mx s w c b (.inr (.inr ⟨by omega,h2,h3⟩))}};{exact mx s w c b (.inr (.inl ⟨by omega,h2⟩))}}
def aP:Nat->List UInt8->List (List UInt8)
 |0,s=>[s]
 |n+1,s=>if (af 32 s).2.2=ZG then (af 32 s).1::aP n (af 32 s).2.1 else [s]
theorem H6{n:Nat}(y:List UInt8)(h:(32:UInt8) ∉ x):aP (n+1) (x++32::y)=x::aP n y:=by rw[aP,lu y h,p6 rfl]
theorem H7{n:Nat}(h:(32:UInt8) ∉ x):aP n x=[x]:=by
 cases n with
 |zero=>rfl
 |succ n=>rw[aP,gG h,gM (by simp)]
theorem H9{k:Nat}(hf:f<=k)(c:k<S.length)(b:S[k]=32):S.drop f=(S.drop f).take (k - f)++32::S.drop (k+1):=by have h1:=(PQ (k - f) (S.drop f)).symm;rw[List.drop_drop,show f+(k - f)=k by omega,RB c,b] at h1;exact h1
theorem Fg{k:Nat}(hf:f<=k)(hk:k<S.length)(b:S[k]≠32)(hn:(32:UInt8) ∉ (S.drop f).take (k - f)):(32:UInt8) ∉ (S.drop f).take (k+1 - f):=by
 have c:k - f<(S.drop f).length:=by rw[LK];omega
 rw[show k+1 - f=(k - f)+1 by omega,QW c];intro h;rcases p8.1 h with h|h;{exact hn h};{simp only[List.getElem_drop,nD] at h;simp only[show f+(k - f)=k by omega] at h;exact b h.symm}
theorem oE (s:ByteArray)(ZO:Nat)(ZK:ZO<=3)(w:M)(hs:s.size<=16777216):Calls Pg 200 #[U s,N I ZO] w λe S=>∃g cap,e=ZF (Z (T (Q g 0 Y)) (aP ZO s.data.toList).length cap)/\S.ownsRow w.heap.size 9 1 (Z (T (Q g 0 Y)) (aP ZO s.data.toList).length cap) (aP ZO s.data.toList).length (cK (aP ZO s.data.toList))/\(aP ZO s.data.toList).length<=4/\Below w.heap.size w S:=by
 have R:Hid (s.data.toList.length=s.size):=by show _=_;simp
 obtain⟨W,hi,A,E,F⟩:=kQ o9;go_enter func200,ntmps200;go_wp2;go_loopw [1,5,6,7] (λX v p i wr=>∃(k f g cap m:Nat) (L:List (List UInt8)),f<=k/\k<=s.size/\X=N I m/\i=N I k/\p=N I f/\v=Z (T (Q g 0 Y)) L.length cap/\Hid (wr.ownsRow w.heap.size 9 1 v L.length (cK L))/\Hid (aP ZO s.data.toList=L++aP m (s.data.toList.drop f))/\Hid ((32:UInt8) ∉ (s.data.toList.drop f).take (k - f))/\L.length+m<=3/\Hid (Below w.heap.size w wr)) (λ_ _ _ i _=>s.size - (intOf i).toNat);case atStart=>exact⟨0,0,w.heap.size,0,ZO,[],by omega,by omega,rfl,rfl,rfl,rfl,Bn w _ _,by simp[Hid],by simp[Hid],by simpa using ZK,br.alloc ly _⟩
 case round =>
  obtain⟨k,f,g,cap,m,L,G,hks,rfl,rfl,rfl,rfl,x,K,ZN,hLk,y⟩:=hrel;have B:w.heap.size<=wr.heap.size:=y.size;have c1:(0:Int)<=f:=by omega
  have c2:(f:Int)<=k:=by omega
  have c3:(k:Int)<=s.size:=by omega
  have c4:(f:Int)<=s.size:=by omega
  have fin:∀hc:aP ZO s.data.toList=L++[s.data.toList.drop f],True:=λ_=>trivial;clear fin;by_cases r:k<s.size/\0<m
  ·obtain⟨r,hm0⟩:=r;obtain⟨n,rfl⟩:∃n,m=n+1:=⟨m - 1,by omega⟩
   have j1:(0:Int)<((n+1:Nat):Int):=by omega
   have j2:((n+1:Nat):Int)=(n:Int)+1:=by omega
   have ZL:(k:Int)<s.size:=by omega
   have C:k<s.data.toList.length:=by rw[R.out];exact r
   have ZP:=λV=>ixS s (k:Int) k rfl r V;have H:=ae (λh=>H9 G C h);have z:=ae (λh=>Fg G C h ZN);generalize s.data.toList[k]=c at ZP H z;by_cases u:c=32;{subst u;have ZP:∀V,(Instr.index 9 (U s) (N I (k:Int))).run Pg V=.ok (N .u8 32) V:=ZP;have ZM:=ae (H rfl);have O:=ae (re s f k);go_wp2_with (at_builtin;refine BS _ rfl (.tmp 23) (.tmp 28) 30 rfl w.heap.size 9 W (U ⟨#[]⟩) 1 16 IB hi A E F rfl (by decide) _ L.length (cK L) (by simp[Act.eval]) (x.alloc _) (Q wr.heap.size 0 Y) 1 1 [U (s.extract f k)] (by simp[Act.eval]) rfl (cu wr _ _) (by simp[Value.oneCell']) (by unfold maxLen;omega) (by omega) (by simp;omega) ?_;intro v' w2 b l o;obtain⟨P,q,rfl⟩:=dr b (by omega);have ZR:=ae b;have ZQ:=ae (bg (y.alloc B (J #[U (s.extract f k)] 9)) l (by simp;omega) (λj e=>(x.lt j e).1));clear b l o);refine⟨⟨k+1,k+1,P,q,n,L++[(s.data.toList.drop f).take (k - f)],by omega,by omega,by go_num,by go_num,by go_num,by simp,?_,?_,by simp[Hid],by simp;omega,ZQ⟩,by simp[intOf];omega⟩;{show World.ownsRow _ _ _ _ _ _ _;rw[km,<-O.out];simp only[cM,eL,nX,FM];exact ZR};{show _=_;rw[K.out,ZM.out,H6 _ ZN.out];rw[<-ZM.out];simp}};{have hne:((c.toNat:Int) == 32)=ZA:=(by have:¬ (c.toNat:Int)=32:=λe=>u (by rw[<-SY];show c.toNat=32;omega);simpa using this);go_wp2;exact⟨⟨k+1,f,g,cap,n+1,L,by omega,by omega,by go_num,by go_num,rfl,rfl,x,K,z u,by omega,y⟩,by simp[intOf];omega⟩}
  ·have O:=ae (nU s f);have D:Hid (aP ZO s.data.toList=L++[s.data.toList.drop f]):=by
    show _=_;rw[K.out];by_cases ZJ:m=0;{subst ZJ;rfl}
    ·obtain rfl:k=s.size:=by omega
     have:=ZN.out;rw[IU (by rw[LK,R.out];omega)] at this;rw[H7 this]
   rcases(show(k:Int)<s.size/\(m:Int)=0∨¬ (k:Int)<s.size by omega) with ⟨ZL,i2⟩|ZL;all_goals
    go_wp2_with (at_builtin;refine BS _ rfl (.tmp 34) (.tmp 38) 30 rfl w.heap.size 9 W (U ⟨#[]⟩) 1 16 IB hi A E F rfl (by decide) _ L.length (cK L) (by simp[Act.eval]) (x.alloc _) (Q wr.heap.size 0 Y) 1 1 [U (s.extract f s.size)] (by simp[Act.eval]) rfl (cu wr _ _) (by simp[Value.oneCell']) (by unfold maxLen;omega) (by omega) (by simp;omega) ?_;intro v' w2 b l o;obtain⟨P,q,rfl⟩:=dr b (by omega);have ZR:=ae b;have ZQ:=ae (bg (y.alloc B (J #[U (s.extract f s.size)] 9)) l (by simp;omega) (λj e=>(x.lt j e).1));clear b l o);go_ret;have t:(aP ZO s.data.toList).length=L.length+1:=by rw[D.out];simp
    refine⟨P,q,by rw[t];rfl,?_,by omega,ZQ⟩;rw[t,D.out,km,<-O.out];exact ZR
def vi (S:List UInt8)(e:Ending):Prop:=(∃n,eP S n/\e=ZF (.tuple #[N I n,.nilIface]))∨((∀n,¬ eP S n)/\∃t p,e=ZF (.tuple #[N I 0,.iface t p]))
theorem Fh (s:ByteArray)(w:M)(hs:s.size<=16777216)(m:EV w 11)(hR:EV w 12):Calls Pg 300 #[U s] w λe b=>((∃v,Lib.atoiAll s.data.toList=.ok v/\e=ZF (.tuple #[N I v,.nilIface]))∨((∀v,Lib.atoiAll s.data.toList≠.ok v)/\∃n t p,e=ZF (.tuple #[N I n,.iface t p])))/\Below w.heap.size w b:=by
 obtain⟨_,l,i,h1⟩:=m;obtain⟨_,f,j,h2⟩:=hR;cases h:Lib.atoiAll s.data.toList with
 |ok v =>
  refine(Tryz.strconv_Atoi_ok s (by omega) v h w).mono ?_;rintro e b ⟨rfl,g⟩;refine⟨.inl ⟨v,rfl,rfl⟩,?_⟩;rcases g with rfl|⟨t,rfl⟩
  {exact dB _ _};{exact Joins.below_bytesWorld _ _ _ _ ly}
 |range =>refine(Tryz.strconv_Atoi_range s (by omega) h _ w h2 (.inr ⟨f,j,rfl⟩)).mono ?_;rintro e b ⟨ZO,rfl,_,_,hb⟩;exact⟨.inr ⟨λv c=>(by cases c),_,_,_,rfl⟩,hb⟩
 |_ =>refine(Tryz.strconv_Atoi_syntax s (by omega) h _ w h1 (.inr ⟨l,i,rfl⟩)).mono ?_;rintro e b ⟨ZO,rfl,_,_,hb⟩;exact⟨.inr ⟨λv c=>(by cases c),_,_,_,rfl⟩,hb⟩
theorem Cg (n:Int)(w:M)(c:-9223372036854775808<=n)(h1:n<=9223372036854775807)(f:Pow w):Calls Pg 55 #[N I n] w λe b=>e=ZF (U ⟨(Lib.itoa n).toArray⟩)/\Below w.heap.size w b:=by refine(Tryz.strconv_Itoa n c h1 _ f).mono ?_;rintro e b ⟨rfl,j,os,g⟩;refine⟨rfl,?_⟩;rw[g];exact jq (os:=os) rfl rfl rfl rfl (by simp)
theorem iI (s:ByteArray)(w:M)(E:s.size<=16777216)(u:EV w 11)(hR:EV w 12)(r:EV w 5)(y:Pow w):Calls Pg 280 #[U s] w λe G=>vi s.data.toList e/\Below w.heap.size w G:=by
 have o:=ae (Fh s w E u hR);have B:=ae y;have z:=ae r;clear u hR y r;go_enter func280,ntmps280;go_wp2_with fail;refine o.mono ?_;rintro e w1 ⟨h1,b⟩;have i:=ae b;have C:=ae (B.aa b ly);obtain⟨hz,F,D,g⟩:=z.aa b z.1;clear b o;rcases h1 with ⟨v,j,rfl⟩|⟨q,n,t,p,rfl⟩
 ·obtain⟨x,m⟩:=Lib.atoiAll_bounds j;have A:=ae j;clear j;go_wp2_with fail;refine(Cg v _ x m C).mono ?_;rintro e w2 ⟨rfl,f⟩;have l:=ae (i.trans (f.mono i.size));have ⟨hz2,te2,pe2,hev2⟩:=EV.aa ⟨hz,F,D,g⟩ f hz;clear f g;cases heq:(Lib.itoa v == s.toList) with
  |true =>
   have c:Hid (eP s.data.toList v):=⟨by have:=eq_of_beq heq;rw[BG] at this;exact this.symm,x,m⟩
   go_wp2;go_ret2;exact⟨.inl ⟨v,c,rfl⟩,l⟩
  |false =>
   have c:Hid (∀n,¬ eP s.data.toList n):=λn h=>by
    have h3:=iE h;rw[A.out] at h3;cases h3
    have h4:=h.1;rw[BG,<-h4] at heq;simp at heq
   go_wp2_with fail;go_quiet (fail);go_wp2;go_ret2;exact⟨.inr ⟨c,_,_,rfl⟩,BM l _⟩
 {have c:Hid (∀n,¬ eP s.data.toList n):=λn h=>q n (iE h);go_wp2_with fail;go_quiet (fail);go_wp2;go_ret2;exact⟨.inr ⟨c,_,_,rfl⟩,BM i _⟩}
structure Lay (w:M):Prop where
 tw:TabW w
 tb:Tab w
 q:EV w 6
 n:EV w 5
 wd:EV w 0
 op:EV w 7
 bd:EV w 8
 sy:EV w 11
 ra:EV w 12
 pw:Pow w
 pl:2<w.heap.size
theorem yq{f:M}(h:Tab w)(hb:Below B w f)(c:1<B):Tab f :=
 ⟨lj h.1 hb.size,λk b=>⟨(hb.cell (p:=(Q 1 _ Y)) c).trans (h.2 k b).1,(hb.cell (p:=(Q 1 _ Y)) c).trans (h.2 k b).2⟩⟩
theorem Lay.aa{c:M}(h:Lay w)(hb:Below B w c)(b:w.heap.size<=B):Lay c :=
 ⟨h.tw.aa hb (lj h.tb.1 b),yq h.tb hb (lj h.tb.1 b),h.q.aa hb (lj h.q.1 b),h.n.aa hb (lj h.n.1 b),h.wd.aa hb (lj h.wd.1 b),h.op.aa hb (lj h.op.1 b),h.bd.aa hb (lj h.bd.1 b),h.sy.aa hb (lj h.sy.1 b),h.ra.aa hb (lj h.ra.1 b),h.pw.aa hb b,lj h.pl hb.size⟩
theorem Lay.low{g f:M}(b:Lay g)(h:Lay w)(hb:Below B w f)(c:g.heap.size<=B):Lay f :=
 ⟨h.tw.aa hb (lj b.tb.1 c),yq h.tb hb (lj b.tb.1 c),h.q.aa hb (lj b.q.1 c),h.n.aa hb (lj b.n.1 c),h.wd.aa hb (lj b.wd.1 c),h.op.aa hb (lj b.op.1 c),h.bd.aa hb (lj b.bd.1 c),h.sy.aa hb (lj b.sy.1 c),h.ra.aa hb (lj b.ra.1 c),h.pw.low hb (lj b.pl c),lj h.pl hb.size⟩
def RdPost (o:Option I3)(e:Ending):Prop:=match o with
 |some i=>e=ZF (.tuple #[ZH #[N I i.1,U ⟨i.2.1.toArray⟩,N I i.2.2],.nilIface])
 |none=>∃t p,e=ZF (.tuple #[ZH #[N I 0,U ⟨#[]⟩,N I 0],.iface t p])
theorem RdPost.err (h:o=Y){t:TypeId}{p:ZC}:RdPost o (ZF (.tuple #[ZH #[N I 0,U ⟨#[]⟩,N I 0],.iface t p])):=by rw[h];exact⟨t,p,rfl⟩
theorem RdPost.ok{k:Int}{t:List UInt8}(h:o=T (k,t,n)):RdPost o (ZF (.tuple #[ZH #[N I k,U ⟨t.toArray⟩,N I n],.nilIface])):=by rw[h];rfl
theorem iJ{b:List UInt8}(h:∀op s n,opF (af 32 b).1=op->aH op s.length n=ZG->¬ (if kind op=1 then (af 32 b).2.1=aF s else if kind op=0 then (af 32 b).2.2=ZA else (af 32 b).2.1=Lib.itoa n)):bF b=Y :=
 pV λi hi=>by obtain⟨h1,h2,h3⟩:=jx.1 hi;exact h _ _ _ h1 h2 h3
theorem pq{line:List UInt8}(h1:opF (af 32 line).1=op)(h2:aH op s.length n=ZG)(h3:if kind op=1 then (af 32 line).2.1=aF s else if kind op=0 then (af 32 line).2.2=ZA else (af 32 line).2.1=Lib.itoa n):bF line=T (op,s,n) :=
 lT (i:=(op,s,n)) (jx.2 ⟨h1,h2,h3⟩)
theorem Ci{sz:Nat}(h:aH op sz n=ZG):(-9223372036854775808<=n/\n<=9223372036854775807):=by obtain⟨h1,_,h3,h4⟩:=ee h;have:=(gJ h1).2.2;omega
theorem vj (b:ByteArray)(w:M)(hs:b.size<=16777216)(hL:Lay w)(t:opF (af 32 b.data.toList).1=0):Calls Pg 282 #[U b] w λe G=>RdPost (bF b.data.toList) e/\Below w.heap.size w G:=by
 have H:=cy 32 b.data.toList;rw[aO] at H;have C:=λV=>fx b 32 V (by unfold maxLen;omega);have ZQ:Hid (bF b.data.toList=Y):=iJ λop s n h1 h2 _=>by rw[t] at h1;obtain⟨h3,_⟩:=ee h2;omega
 have i:=λV h1 h2=>mw ⟨(af 32 b.data.toList).1.toArray⟩ V h1 h2;have h:opF ((⟨(af 32 b.data.toList).1.toArray⟩:ByteArray).data.toList)=0:=t;rw[h] at i;clear h;have l:=ae ((q9 w).alloc ly (J #[N I 0,U ⟨#[]⟩,N I 0] 151));have x:=ae (CI.new w (N I 0) (U ⟨#[]⟩) (N I 0));have y:=ae (hL.aa l ly);have z0:(w.alloc (J #[N I 0,U ⟨#[]⟩,N I 0] 151)).heap.size=w.heap.size+1:=by simp
 have HL0:=ae hL;clear hL;go_enter func282,XX;go_wp2_with fail;generalize w.alloc (J #[N I 0,U ⟨#[]⟩,N I 0] 151)=E at l x y z0 ⊢;refine(C _).mono ?_;rintro e f ⟨rfl,m,g⟩;have o:Below E.heap.size E f:=by rw[g];exact BM br m
 have B:=ae (l.trans (o.mono (by omega)));have A:=ae (x.aa o (by omega));have j:=ae (y.aa o ly);have z1:f.heap.size=w.heap.size+1:=by rw[g];exact z0
 clear g o l x y z0 C;go_wp2_with fail;refine(i f j.tw j.tb.1).mono ?_;rintro e G ⟨rfl,u⟩;rw[u];clear u i;have r:=ae (CI.new f (N I 0) (U ⟨#[]⟩) (N I 0));rw[z1] at r;have q:=(q9 f).alloc ly (J #[N I 0,U ⟨#[]⟩,N I 0] 151);have z:=ae (B.trans (q.mono (by omega)));have c:=ae (A.aa q (by omega));have D:=ae (j.aa q ly);clear q;go_upto_region 4 with fail;generalize f.alloc (J #[N I 0,U ⟨#[]⟩,N I 0] 151)=F at r z c D ⊢;clear B A j z1;have z2:w.heap.size<F.heap.size:=c.lt;have z2':w.heap.size+1<F.heap.size:=r.lt;have i0:=r.c0;obtain⟨hzw,te,pe,hev⟩:=D.wd;have d0:=c.c0;have d1:=c.c1;have d2:=c.c2;have df0:=c.fz 0;have df1:=c.fz 1;have df2:=c.fz 2;go_wp2;try simp only[Exit.inBlock,Exit.then]
 refine bp (eJ rfl _ _ w.heap.size _ _ _ rfl (c.all _ _ _)) rfl ?_;exact⟨RdPost.err ZQ,((z.setCell (p:=(Q w.heap.size 0 Y)) ly _).setCell (p:=(Q w.heap.size 1 Y)) ly _).setCell (p:=(Q w.heap.size 2 Y)) ly _⟩
theorem oF (f:ByteArray)(w:M)(hs:f.size<=16777216)(hL:Lay w)(k:Nat)(h1:1<=(k:Int))(h2:(k:Int)<=15)(x:opF (af 32 f.data.toList).1=k)(bt:0<aE k∨¬ 0<aE k/\0<bO k):Calls Pg 282 #[U f] w λe w'=>RdPost (bF f.data.toList) e/\Below w.heap.size w w':=by
 have ro:=ae bt;clear bt;have ph:=cy 32 f.data.toList;rw[aO] at ph;have CU:=λV=>fx f 32 V (by unfold maxLen;omega);have ZL:=λV h1 h2=>mw ⟨(af 32 f.data.toList).1.toArray⟩ V h1 h2;have ZM:opF ((⟨(af 32 f.data.toList).1.toArray⟩:ByteArray).data.toList)=(k:Int):=x;rw[ZM] at ZL;clear ZM;have X:=ae ((q9 w).alloc ly (J #[N I 0,U ⟨#[]⟩,N I 0] 151));have R0:=ae (CI.new w (N I 0) (U ⟨#[]⟩) (N I 0));have L0:=ae (hL.aa X ly);have z0:(w.alloc (J #[N I 0,U ⟨#[]⟩,N I 0] 151)).heap.size=w.heap.size+1:=by simp
 have O:=ae hL;clear hL;go_enter func282,XX;go_wp2_with fail;generalize w.alloc (J #[N I 0,U ⟨#[]⟩,N I 0] 151)=WA at X R0 L0 z0 ⊢;refine(CU _).mono ?_;rintro e G ⟨rfl,m,ZO⟩;have D1:Below WA.heap.size WA G:=by rw[ZO];exact BM br m
 have A1:=ae (X.trans (D1.mono (by omega)));have R1:=ae (R0.aa D1 (by omega));have L1:=ae (L0.aa D1 ly);have z1:G.heap.size=w.heap.size+1:=by rw[ZO];exact z0
 clear ZO D1 X R0 L0 z0 CU;go_wp2_with fail;refine(ZL G L1.tw L1.tb.1).mono ?_;rintro e w' ⟨rfl,ld⟩;rw[ld];clear ld ZL;have K:=ae (CI.new G (N I (k:Int)) (U ⟨#[]⟩) (N I 0));rw[z1] at K;have ZK:=(q9 G).alloc ly (J #[N I (k:Int),U ⟨#[]⟩,N I 0] 151);have B2:=ae (A1.trans (ZK.mono (by omega)));have R2:=ae (R1.aa ZK (by omega));have A:=ae (L1.aa ZK ly);clear ZK;go_upto_region 4 with fail;generalize G.alloc (J #[N I (k:Int),U ⟨#[]⟩,N I 0] 151)=W2 at K B2 R2 A ⊢;clear A1 R1 L1 z1;have z2:w.heap.size<W2.heap.size:=R2.lt;have z2':w.heap.size+1<W2.heap.size:=K.lt;have i0:=K.c0;have k0:((k:Int) == 0)=ZA:=by simp;omega
 have k16:(k:Int)<16:=by omega
 obtain⟨t1,t2⟩:=A.tb.2 k (by omega);have qr:=A.tb.1;rcases ro.out with ZJ|⟨ZJ,dg⟩
 case' inl =>have o:kind k=1:=(eO ⟨h1,h2⟩).1.2 ZJ;have W:=λV h=>oD ⟨(af 32 f.data.toList).2.1.toArray⟩ V (by show(af 32 f.data.toList).2.1.length<=_;omega) h;generalize aE (k:Int)=mt at t1 ZJ;generalize bO (k:Int)=mn at t2;go_wp2_with fail;refine(W _ A.q).mono ?_
 case' inr =>have o:¬ kind k=1:=λh=>absurd ((eO ⟨h1,h2⟩).1.1 h) (by omega);have ZR:¬ kind k=0:=λh=>((eO ⟨h1,h2⟩).2.1 h).2 dg;have W:=λV a b c d=>iI ⟨(af 32 f.data.toList).2.1.toArray⟩ V (by show(af 32 f.data.toList).2.1.length<=_;omega) a b c d;generalize aE (k:Int)=mt at t1 ZJ;generalize bO (k:Int)=mn at t2 dg;go_wp2_with fail;refine(W _ A.sy A.ra A.n A.pw).mono ?_
 all_goals
  clear t1 t2 i0;rintro e D ⟨hu,E⟩;have I3:=ae (K.aa E K.lt);have ZQ:=ae (R2.aa E z2);have L:=ae (B2.trans (E.mono (QC z2)));have L3:=ae (A.aa E ly);clear E W K R2 B2 A qr;have z3:w.heap.size<D.heap.size:=ZQ.lt;have z3':w.heap.size+1<D.heap.size:=I3.lt;have c0:=I3.c0;have c1:=I3.c1;have c2:=I3.c2
 focus
  have mv:=I3.fz 2;rcases hu with ⟨l,hn,rfl⟩|⟨P,te,pe,rfl⟩
  rotate_left
  ·have ZP:Hid (bF f.data.toList=Y):=iJ λop s n u y z=>by
    rw[x] at u;subst u;rw[gM o,gM ZR] at z;exact P n ⟨z,Ci y⟩
   have g:=ae (ZQ.other (Q (w.heap.size+1) 2 Y) (by show w.heap.size+1≠w.heap.size;omega) (N I 0));have B:=ae (L.setCell (p:=(Q (w.heap.size+1) 2 Y)) (by show w.heap.size<=w.heap.size+1;omega) (N I 0));have d0:=g.c0;have d1:=g.c1;have d2:=g.c2;have la:=g.fz 0;have aq:=g.fz 1;have fd:=g.fz 2;go_wp2;try simp only[Exit.inBlock,Exit.then]
   refine bp (eJ rfl _ _ w.heap.size _ _ _ rfl (g.all _ _ _)) rfl ?_;exact⟨RdPost.err ZP,((B.setCell (p:=(Q w.heap.size 0 Y)) ly _).setCell (p:=(Q w.heap.size 1 Y)) ly _).setCell (p:=(Q w.heap.size 2 Y)) ly _⟩
  have r:=ae (I3.set2 (N I l));have g:=ae (ZQ.other (Q (w.heap.size+1) 2 Y) (by show w.heap.size+1≠w.heap.size;omega) (N I l));have ZN:Below (w.heap.size+1) D (D.setCell (Q (w.heap.size+1) 2 Y) (N I l)):=br.setCell (p:=(Q (w.heap.size+1) 2 Y)) ly _;have B:=ae (L.setCell (p:=(Q (w.heap.size+1) 2 Y)) (by show w.heap.size<=w.heap.size+1;omega) (N I l));have H:=ae (Lay.low O L3 ZN (by omega));clear ZN I3 ZQ L L3;have j:=ae (λ(h:aH (k:Int) ([]:List UInt8).length l=ZG)=>pq (line:=f.data.toList) (s:=[]) (n:=l) x h (by rw[gM o,gM ZR];exact hn.1));have i:Hid (aH (k:Int) ([]:List UInt8).length l=ZA->bF f.data.toList=Y):=λhf=>iJ λop s n' u y z=>by
   rw[x] at u;subst u;rw[gM o,gM ZR] at z;have e4:=iE (s:=(af 32 f.data.toList).2.1) ⟨z,Ci y⟩;have e5:Lib.atoiAll (af 32 f.data.toList).2.1=.ok l:=iE hn;rw[e5] at e4;cases e4
   obtain⟨_,e6,_,_⟩:=ee y;have e9:=(gJ ⟨h1,h2⟩).1 o;have R:s.length=0:=by omega
   rw[R] at y;rw[show([]:List UInt8).length=0 from rfl,y] at hf;exact absurd hf (by simp)
  go_upto_region 12 with fail;clear c0 c1 c2 mv;generalize D.setCell (Q (w.heap.size+1) 2 Y) (N I l)=W4 at r g B H ⊢;have r:Hid (CI W4 (w.heap.size+1) (N I (k:Int)) (U ⟨([]:List UInt8).toArray⟩) (N I l)):=r;generalize ([]:List UInt8)=S at r j i
 rotate_left;focus
  have n9:=I3.fz 1;rcases hu with ⟨t,ht,rfl⟩|⟨P,te,pe,rfl⟩
  rotate_left
  ·have ZP:Hid (bF f.data.toList=Y):=iJ λop s n u y z=>by
    rw[x] at u;subst u;rw[p6 o] at z;exact P s z
   have g:=ae (ZQ.other (Q (w.heap.size+1) 1 Y) (by show w.heap.size+1≠w.heap.size;omega) (U ⟨#[]⟩));have B:=ae (L.setCell (p:=(Q (w.heap.size+1) 1 Y)) (by show w.heap.size<=w.heap.size+1;omega) (U ⟨#[]⟩));have d0:=g.c0;have d1:=g.c1;have d2:=g.c2;have la:=g.fz 0;have aq:=g.fz 1;have fd:=g.fz 2;go_wp2;try simp only[Exit.inBlock,Exit.then]
   refine bp (eJ rfl _ _ w.heap.size _ _ _ rfl (g.all _ _ _)) rfl ?_;exact⟨RdPost.err ZP,((B.setCell (p:=(Q w.heap.size 0 Y)) ly _).setCell (p:=(Q w.heap.size 1 Y)) ly _).setCell (p:=(Q w.heap.size 2 Y)) ly _⟩
  have r:=ae (I3.set1 (U ⟨t.toArray⟩));have g:=ae (ZQ.other (Q (w.heap.size+1) 1 Y) (by show w.heap.size+1≠w.heap.size;omega) (U ⟨t.toArray⟩));have ZN:Below (w.heap.size+1) D (D.setCell (Q (w.heap.size+1) 1 Y) (U ⟨t.toArray⟩)):=br.setCell (p:=(Q (w.heap.size+1) 1 Y)) ly _;have B:=ae (L.setCell (p:=(Q (w.heap.size+1) 1 Y)) (by show w.heap.size<=w.heap.size+1;omega) (U ⟨t.toArray⟩));have H:=ae (Lay.low O L3 ZN (by omega));clear ZN I3 ZQ L L3;have j:=ae (λ(h:aH (k:Int) t.length 0=ZG)=>pq (line:=f.data.toList) (s:=t) (n:=0) x h (by rw[p6 o];exact ht));have i:Hid (aH (k:Int) t.length 0=ZA->bF f.data.toList=Y):=λhf=>iJ λop s n u y z=>by
   rw[x] at u;subst u;rw[p6 o,show(af 32 f.data.toList).2.1=aF t from ht] at z;have e4:=(kW (mid:=t.flatMap enc) (by rw[dy]) s).1 z;have e5:=gU e4;obtain⟨_,_,e7,e8⟩:=ee y;have e9:=(gJ ⟨h1,h2⟩).2.1 (.inl o);have R:n=0:=by omega
   rw[<-e5,R,hf] at y;exact absurd y (by simp)
  go_upto_region 12 with fail;clear c0 c1 c2 n9;generalize D.setCell (Q (w.heap.size+1) 1 Y) (U ⟨t.toArray⟩)=W4 at r g B H ⊢;generalize (0:Int)=l at r j i;generalize t=S at r j i
 all_goals
  have z4:w.heap.size<W4.heap.size:=g.lt;have sm:w.heap.size+1<W4.heap.size:=r.lt;have c0:=r.c0;have c1:=r.c1;have c2:=r.c2;have VI:∀V,Tab V->Calls Pg 220 #[ZH #[N I (k:Int),U ⟨S.toArray⟩,N I l]] V λe w'=>e=ZF (ZD (aH (k:Int) S.length l))/\Below V.heap.size V w':=λV hV=>jM (k:Int) ⟨S.toArray⟩ l V hV;go_wp2_with fail;refine(VI _ H.tb).mono ?_;rintro e w5 ⟨rfl,F⟩;clear c0 c1 c2 VI;have I5:=ae (r.aa F sm);have C:=ae (g.aa F z4);have B5:=ae (B.trans (F.mono (QC z4)));obtain⟨hzb,te,pe,hbd⟩:=H.bd.aa F H.bd.1;clear F r g B H;have z5:w.heap.size<w5.heap.size:=C.lt;have g6:¬ w.heap.size=8:=by have:=O.bd.1;omega
  have g6':¬ 8=w.heap.size:=by omega
  have d0:=C.c0;have d1:=C.c1;have d2:=C.c2;have la:=C.fz 0;have aq:=C.fz 1;have fd:=C.fz 2;cases hok:aH (k:Int) S.length l with
  |false =>
   have ZP:=ae (i hok);clear i j;go_wp2_with fail;go_region;all_goals
    go_wp2;try simp only[Exit.inBlock,Exit.then]
    refine bp (eJ rfl _ _ w.heap.size _ _ _ rfl (C.all _ _ _)) rfl ?_;exact⟨RdPost.err ZP,(((BM B5 _).setCell (p:=(Q w.heap.size 0 Y)) ly _).setCell (p:=(Q w.heap.size 1 Y)) ly _).setCell (p:=(Q w.heap.size 2 Y)) ly _⟩
  |true =>
   have ZP:=ae (j hok);clear i j;have c0:=I5.c0;have c1:=I5.c1;have c2:=I5.c2;go_wp2;try simp only[Exit.inBlock,Exit.then]
   refine bp (eJ rfl _ _ w.heap.size _ _ _ rfl (C.all _ _ _)) rfl ?_;exact⟨RdPost.ok ZP,((B5.setCell (p:=(Q w.heap.size 0 Y)) ly _).setCell (p:=(Q w.heap.size 1 Y)) ly _).setCell (p:=(Q w.heap.size 2 Y)) ly _⟩
theorem ru (b:ByteArray)(w:M)(hs:b.size<=16777216)(hL:Lay w)(k:Nat)(h1:1<=(k:Int))(h2:(k:Int)<=15)(y:opF (af 32 b.data.toList).1=k)(C:¬ 0<aE k)(B:¬ 0<bO k)(K:(af 32 b.data.toList).2.2=ZG):Calls Pg 282 #[U b] w λe O=>RdPost (bF b.data.toList) e/\Below w.heap.size w O:=by
 have P:=cy 32 b.data.toList;rw[aO] at P;have L:=λV=>fx b 32 V (by unfold maxLen;omega);have A:¬ kind k=1:=λh=>C ((eO ⟨h1,h2⟩).1.1 h);have x:kind k=0:=(eO ⟨h1,h2⟩).2.2 ⟨C,B⟩;have S:Hid (bF b.data.toList=Y):=iJ λop s n H e2 ZQ=>by rw[y] at H;subst H;rw[gM A,p6 x,K] at ZQ;exact absurd ZQ (by simp)
 clear A x;have j:=λV h1 h2=>mw ⟨(af 32 b.data.toList).1.toArray⟩ V h1 h2;have i:opF ((⟨(af 32 b.data.toList).1.toArray⟩:ByteArray).data.toList)=(k:Int):=y;rw[i] at j;clear i;have o:=ae ((q9 w).alloc ly (J #[N I 0,U ⟨#[]⟩,N I 0] 151));have D:=ae (CI.new w (N I 0) (U ⟨#[]⟩) (N I 0));have E:=ae (hL.aa o ly);have z0:(w.alloc (J #[N I 0,U ⟨#[]⟩,N I 0] 151)).heap.size=w.heap.size+1:=by simp
 have HL0:=ae hL;clear hL;go_enter func282,XX;go_wp2_with fail;generalize w.alloc (J #[N I 0,U ⟨#[]⟩,N I 0] 151)=ZR at o D E z0 ⊢;refine(L _).mono ?_;rintro e f ⟨rfl,m,g⟩;have q:Below ZR.heap.size ZR f:=by rw[g];exact BM br m
 have ZP:=ae (o.trans (q.mono (by omega)));have G:=ae (D.aa q (by omega));have l:=ae (E.aa q ly);have z1:f.heap.size=w.heap.size+1:=by rw[g];exact z0
 clear g q o D E z0 L;go_wp2_with fail;refine(j f l.tw l.tb.1).mono ?_;rintro e O ⟨rfl,z⟩;rw[z];clear z j;have u:=ae (CI.new f (N I (k:Int)) (U ⟨#[]⟩) (N I 0));rw[z1] at u;have r:=(q9 f).alloc ly (J #[N I (k:Int),U ⟨#[]⟩,N I 0] 151);have F:=ae (ZP.trans (r.mono (by omega)));have c:=ae (G.aa r (by omega));have t:=ae (l.aa r ly);clear r;go_upto_region 4 with fail;generalize f.alloc (J #[N I (k:Int),U ⟨#[]⟩,N I 0] 151)=ZO at u F c t ⊢;clear ZP G l z1;have z2:w.heap.size<ZO.heap.size:=c.lt;have z2':w.heap.size+1<ZO.heap.size:=u.lt;have i0:=u.c0;have k0:((k:Int) == 0)=ZA:=by simp;omega
 have k16:(k:Int)<16:=by omega
 obtain⟨ZN,R⟩:=t.tb.2 k (by omega);have hrw:=t.tb.1;generalize aE (k:Int)=mt at ZN C;generalize bO (k:Int)=mn at R B;obtain⟨hzo,te,pe,hev⟩:=t.op;have d0:=c.c0;have d1:=c.c1;have d2:=c.c2;have df0:=c.fz 0;have df1:=c.fz 1;have df2:=c.fz 2;go_wp2;try simp only[Exit.inBlock,Exit.then]
 refine bp (eJ rfl _ _ w.heap.size _ _ _ rfl (c.all _ _ _)) rfl ?_;exact⟨RdPost.err S,((F.setCell (p:=(Q w.heap.size 0 Y)) ly _).setCell (p:=(Q w.heap.size 1 Y)) ly _).setCell (p:=(Q w.heap.size 2 Y)) ly _⟩
theorem vl (b:ByteArray)(w:M)(hs:b.size<=16777216)(hL:Lay w)(k:Nat)(h1:1<=(k:Int))(h2:(k:Int)<=15)(r:opF (af 32 b.data.toList).1=k)(L:¬ 0<aE k)(ZQ:¬ 0<bO k)(W:(af 32 b.data.toList).2.2=ZA):Calls Pg 282 #[U b] w λe D=>RdPost (bF b.data.toList) e/\Below w.heap.size w D:=by
 have aq:=cy 32 b.data.toList;rw[aO] at aq;have X:=λV=>fx b 32 V (by unfold maxLen;omega);have z:¬ kind k=1:=λh=>L ((eO ⟨h1,h2⟩).1.1 h);have q:kind k=0:=(eO ⟨h1,h2⟩).2.2 ⟨L,ZQ⟩;have j:=ae (λ(h:aH (k:Int) ([]:List UInt8).length 0=ZG)=>pq (line:=b.data.toList) (s:=[]) (n:=0) r h (by rw[gM z,p6 q];exact W));have i:Hid (aH (k:Int) ([]:List UInt8).length 0=ZA->bF b.data.toList=Y):=λhf=>iJ λop s n' ZL P e3=>by
  rw[r] at ZL;subst ZL;obtain⟨_,e6,e7,e8⟩:=ee P;have e9:=(gJ ⟨h1,h2⟩).1 z;have e10:=(gJ ⟨h1,h2⟩).2.1 (.inr q);have mv:s.length=0:=by omega
  have dg:n'=0:=by omega
  rw[mv,dg] at P;rw[show([]:List UInt8).length=0 from rfl,P] at hf;exact absurd hf (by simp)
 clear z q;have A:=λV h1 h2=>mw ⟨(af 32 b.data.toList).1.toArray⟩ V h1 h2;have y:opF ((⟨(af 32 b.data.toList).1.toArray⟩:ByteArray).data.toList)=(k:Int):=r;rw[y] at A;clear y;have B:=ae ((q9 w).alloc ly (J #[N I 0,U ⟨#[]⟩,N I 0] 151));have ZO:=ae (CI.new w (N I 0) (U ⟨#[]⟩) (N I 0));have S:=ae (hL.aa B ly);have z0:(w.alloc (J #[N I 0,U ⟨#[]⟩,N I 0] 151)).heap.size=w.heap.size+1:=by simp
 have bt:=ae hL;clear hL;go_enter func282,XX;go_wp2_with fail;generalize w.alloc (J #[N I 0,U ⟨#[]⟩,N I 0] 151)=WA at B ZO S z0 ⊢;refine(X _).mono ?_;rintro e g ⟨rfl,m,u⟩;have G:Below WA.heap.size WA g:=by rw[u];exact BM br m
 have A1:=ae (B.trans (G.mono (by omega)));have R1:=ae (ZO.aa G (by omega));have F:=ae (S.aa G ly);have z1:g.heap.size=w.heap.size+1:=by rw[u];exact z0
 clear u G B ZO S z0 X;go_wp2_with fail;refine(A g F.tw F.tb.1).mono ?_;rintro e D ⟨rfl,ZP⟩;rw[ZP];clear ZP A;have o:=ae (CI.new g (N I (k:Int)) (U ⟨#[]⟩) (N I 0));rw[z1] at o;have C:=(q9 g).alloc ly (J #[N I (k:Int),U ⟨#[]⟩,N I 0] 151);have O:=ae (A1.trans (C.mono (by omega)));have H:=ae (R1.aa C (by omega));have x:=ae (F.aa C ly);clear C;go_upto_region 4 with fail;generalize g.alloc (J #[N I (k:Int),U ⟨#[]⟩,N I 0] 151)=R at o O H x ⊢;clear A1 R1 F z1;have z2:w.heap.size<R.heap.size:=H.lt;have ld:w.heap.size+1<R.heap.size:=o.lt;have i0:=o.c0;have k0:((k:Int) == 0)=ZA:=by simp;omega
 have k16:(k:Int)<16:=by omega
 obtain⟨ZM,ZK⟩:=x.tb.2 k (by omega);have fd:=x.tb.1;generalize aE (k:Int)=mt at ZM L;generalize bO (k:Int)=mn at ZK ZQ;go_upto_region 12 with fail;clear ZM ZK i0 fd;have l:=o;have E:=H;have ZR:=O;have t:=x;clear o H O x;generalize R=W4 at l E ZR t z2 ld ⊢;have z4:w.heap.size<W4.heap.size:=E.lt;have la:w.heap.size+1<W4.heap.size:=l.lt;have c0:=l.c0;have c1:=l.c1;have c2:=l.c2;have VI:∀V,Tab V->Calls Pg 220 #[ZH #[N I (k:Int),U ⟨([]:List UInt8).toArray⟩,N I 0]] V λe D=>e=ZF (ZD (aH (k:Int) ([]:List UInt8).length 0))/\Below V.heap.size V D:=λV hV=>jM (k:Int) ⟨([]:List UInt8).toArray⟩ 0 V hV;go_wp2_with fail;refine(VI _ t.tb).mono ?_;rintro e w5 ⟨rfl,f⟩;clear c0 c1 c2 VI;have K:=ae (l.aa f la);have c:=ae (E.aa f z4);have ZJ:=ae (ZR.trans (f.mono (QC z4)));obtain⟨hzb,te,pe,hbd⟩:=t.bd.aa f t.bd.1;clear f l E ZR t;have z5:w.heap.size<w5.heap.size:=c.lt;have g6:¬ w.heap.size=8:=by have:=bt.bd.1;omega
 have g6':¬ 8=w.heap.size:=by omega
 have d0:=c.c0;have d1:=c.c1;have d2:=c.c2;have df0:=c.fz 0;have df1:=c.fz 1;have df2:=c.fz 2;cases hok:aH (k:Int) ([]:List UInt8).length 0 with
 |false =>
  have ZN:=ae (i hok);clear i j;go_wp2_with fail;go_region;all_goals
   go_wp2;try simp only[Exit.inBlock,Exit.then]
   refine bp (eJ rfl _ _ w.heap.size _ _ _ rfl (c.all _ _ _)) rfl ?_;exact⟨RdPost.err ZN,(((BM ZJ _).setCell (p:=(Q w.heap.size 0 Y)) ly _).setCell (p:=(Q w.heap.size 1 Y)) ly _).setCell (p:=(Q w.heap.size 2 Y)) ly _⟩
 |true =>
  have ZN:=ae (j hok);clear i j;have c0:=K.c0;have c1:=K.c1;have c2:=K.c2;go_wp2;try simp only[Exit.inBlock,Exit.then]
  refine bp (eJ rfl _ _ w.heap.size _ _ _ rfl (c.all _ _ _)) rfl ?_;exact⟨RdPost.ok ZN,((ZJ.setCell (p:=(Q w.heap.size 0 Y)) ly _).setCell (p:=(Q w.heap.size 1 Y)) ly _).setCell (p:=(Q w.heap.size 2 Y)) ly _⟩
theorem xp (b:ByteArray)(w:M)(g:b.size<=16777216)(hL:Lay w):Calls Pg 282 #[U b] w λe j=>RdPost (bF b.data.toList) e/\Below w.heap.size w j:=by
 rcases qX (af 32 b.data.toList).1 with ⟨i,_⟩|⟨h1,h2,_⟩
 {exact vj b w g hL i}
 ·obtain⟨k,c⟩:=AP (show 0<=opF (af 32 b.data.toList).1 by omega);have h1:1<=(k:Int):=by rw[<-c];exact h1
  have h2:(k:Int)<=15:=by rw[<-c];exact h2
  by_cases h:0<aE k;{exact oF b w g hL k h1 h2 c (.inl h)}
  ·by_cases f:0<bO k;{exact oF b w g hL k h1 h2 c (.inr ⟨h,f⟩)}
   ·cases hsp:(af 32 b.data.toList).2.2 with
    |true=>exact ru b w g hL k h1 h2 c h f hsp
    |false=>exact vl b w g hL k h1 h2 c h f hsp
