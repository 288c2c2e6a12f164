import Derived.Test.YtoddkejemcbkmaaGreatDoorSU
import Derived.Test.YtoddkejemcbkmaaGreatDoorRO
import Derived.Deep.DeepFit
set_option maxRecDepth 100000
set_option maxHeartbeats 2000000
set_option linter.unusedSimpArgs false
open Option renaming none->Y,some->T
open Go renaming Value.string->U,Value.int->J,IntKind.i64->I,World->M,Ending.returned->ZF,Proofs.Tryz.prog->Pg
open Bool renaming false->ZA,true->ZG
namespace Go.Proofs.YtoddkejemcbkmaaGreatDoor.Vp
open Tryz RowKit
variable {w:M}{s:ByteArray}{c:UInt8}{l:List UInt8}
theorem jJ (s:ByteArray)(w:M)(f:TabW w)(hz:1<w.heap.size):Calls Pg 162 #[U s] w λe p=>e=ZF (J I (opF s.data.toList))/\p=w:=by
 have o:=ae f;clear f;go_enter func162,ntmps162;go_wp2;go_loopw [3] (λi wr=>∃k:Nat,1<=k/\k<=16/\i=J I k/\Hid (∀j:Int,1<=j->j<k->s.data.toList≠word j)/\wr=w) (λi _=>16 - (intOf i).toNat);case atStart=>exact⟨1,by omega,by omega,rfl,λj h1 h2=>by omega,rfl⟩
 case round =>
  obtain⟨k,hk1,hk2,rfl,m,rfl⟩:=hrel;by_cases l:k<16
  ·have c0:=o.out k l;have c:(k:Int)<=15:=by omega
   have h16:(k:Int)<16:=by omega
   cases hb:(word k == s.toList) with
   |true =>
    have g:s.data.toList=word k:=by have:=eq_of_beq hb;rw[GC] at this;exact this.symm
    have b:=ae (show opF s.data.toList=k by rw[g];exact jF ⟨by omega,c⟩);clear g;go_wp2;go_ret;exact⟨by rw[b.out];rfl,rfl⟩
   |false =>
    have n:=ae (show s.data.toList≠word k from λe=>by
     rw[GC,e] at hb
     simp at hb)
    go_wp2;refine⟨⟨k+1,by omega,by omega,by go_num,λj h1 h2=>?_,trivial⟩,by simp[intOf];omega⟩;by_cases e:j=k;{rw[e];exact n.out};{exact m.out j h1 (by omega)}
  ·obtain rfl:k=16:=by omega
   have b:=ae (show opF s.data.toList=0 from by
    rcases qv s.data.toList with h|⟨h1,h2,h3⟩
    {exact h.1}
    ·exact absurd h3 (m.out _ h1 (by omega)))
   go_wp2;go_ret;exact⟨by rw[b.out];rfl,rfl⟩
theorem tT (c:UInt8):∀s:List UInt8,(Lib.indexByte s c=-1/\af c s=(s,[],ZA))∨∃i:Nat,Lib.indexByte s c=i/\i<s.length/\af c s=(s.take i,s.drop (i+1),ZG)
 |[]=>.inl ⟨rfl,rfl⟩
 |b::l=>by
  by_cases e:b=c
  ·subst e
   exact .inr ⟨0,by simp[Lib.indexByte],by simp,by simp[af]⟩
  ·have hb:(b == c)=ZA:=by simpa using e
   rcases tT c l with ⟨h1,h2⟩|⟨i,h1,h2,h3⟩
   ·exact .inl ⟨by simp[Lib.indexByte,hb,h1],by rw[af,nD e,h2]⟩
   ·refine .inr ⟨i+1,?_,by simp only[eT];omega,?_⟩
    ·have:((i:Int) == -1)=ZA:=by
      have h:¬ (i:Int)=-1:=by omega
      exact beq_false_of_ne h
     simp[Lib.indexByte,hb,h1,this]
    ·rw[af,nD e,h3]
     simp
theorem vS (s:ByteArray)(c:UInt8)(w:M)(h:s.size<=maxLen):Calls Pg 136 #[U s,U ⟨#[c]⟩] w λe b=>e=ZF (.tuple #[U ⟨(af c s.data.toList).1.toArray⟩,U ⟨(af c s.data.toList).2.1.toArray⟩,.bool (af c s.data.toList).2.2])/\∃m,b=w.drewN m:=by
 unfold maxLen at h;rcases tT c s.data.toList with ⟨h1,h2⟩|⟨i,h1,h2,h3⟩
 {rw[h2];go_enter func136,ntmps136;go_wp2_with (go_at_call 159;refine(Tryz.stringslite_Index_one s c _).mono ?_;rintro e b ⟨rfl,rfl⟩;rw[h1]);go_ret3;exact⟨by simp,0,rfl⟩}
 ·rw[h3];have hl:i<s.size:=by simpa using h2
  have c1:(0:Int)<=↑i:=by omega
  have c2:(↑i:Int)<=↑s.size:=by omega
  have c3:(0:Int)<=↑i+1:=by omega
  have c4:(↑i+1:Int)<=↑s.size:=by omega
  have c5:(s.size:Int)<=9223372036854775807:=by omega
  have f:=ae (show s.extract 0 i=⟨(s.data.toList.take i).toArray⟩ from by
   refine MP (PE ?_)
   simp[NR])
  have g:=ae (show s.extract (i+1) s.size=⟨(s.data.toList.drop (i+1)).toArray⟩ from by
   refine MP (PE ?_);simp only[NR,OQ,NN]
   rw[KK (by simp)])
  go_enter func136,ntmps136;go_wp2_with (go_at_call 159;refine(Tryz.stringslite_Index_one s c _).mono ?_;rintro e b ⟨rfl,rfl⟩;rw[h1]);go_quiet (fail);go_wp2;go_ret3;exact⟨by rw[<-f.out,<-g.out];rfl,nq,rfl⟩
theorem bQ (s:ByteArray)(c:UInt8)(w:M)(f:s.size<=maxLen):Calls Pg 102 #[U s,U ⟨#[c]⟩] w λe b=>e=ZF (.tuple #[U ⟨(af c s.data.toList).1.toArray⟩,U ⟨(af c s.data.toList).2.1.toArray⟩,.bool (af c s.data.toList).2.2])/\∃m,b=w.drewN m:=by go_enter func102,ntmps102;go_wp2_with (go_at_call 136;refine(vS s c _ f).mono ?_;rintro e b ⟨rfl,m,rfl⟩);go_ret3;exact⟨rfl,m,rfl⟩
theorem Hz (c:UInt8):Lib.indexByte [48,49,50,51,52,53,54,55,56,57,97,98,99,100,101,102] c=aT c:=by refine tA (p:=λc=>Lib.indexByte [48,49,50,51,52,53,54,55,56,57,97,98,99,100,101,102] c=aT c) ?_ c;decide +kernel
theorem eV (c:UInt8)(w:M):Calls Pg 101 #[U ⟨#[48,49,50,51,52,53,54,55,56,57,97,98,99,100,101,102]⟩,J .u8 c.toNat] w λe b=>e=ZF (J I (aT c))/\b=w:=by
 refine(Tryz.strings_IndexByte _ (c.toNat:Int) w).mono ?_;rintro e b ⟨rfl,rfl⟩;refine⟨?_,rfl⟩;have:((c.toNat:Int).toNat).toUInt8=c:=by simp
 rw[this];exact AP (λx=>Ending.returned (J I x)) (Hz c)
def EV (w:M)(g:Nat):Prop:=g<w.heap.size/\∃t p,w.cell? ⟨g,0,Y⟩=T (.iface t p)
theorem EV.aa{b:M}{g B:Nat}(h:EV w g)(hb:Below B w b)(c:g<B):EV b g:=by obtain⟨h1,t,p,h2⟩:=h;exact⟨lj h1 hb.size,t,p,(hb.cell (p:=⟨g,0,Y⟩) c).trans h2⟩
theorem aH (s:ByteArray):s.data.toList.length=s.size:=by simp
theorem byte_at{i:Nat}(h:i<s.size)(b:s.data.toList[i]?=T c):s[i]=c:=by obtain⟨h1,h2⟩:=p6.1 b;rw[Array.getElem_toList] at h2;exact h2
theorem Dx (h0:0<s.size):∃c r,s.data.toList=c::r/\s.size=r.length+1:=by
 have h:=aH s;cases e:s.data.toList with
 |nil=>rw[e] at h;simp at h;omega
 |cons c r=>rw[e] at h;exact⟨c,r,rfl,by simp at h;omega⟩
theorem orB (k l:Int)(b:0<=k)(h1:k<16)(h2:0<=l)(h3:l<16):bits BinOp.or IntKind.i64 (wrap64 (k*16)) l % 256=16*k+l:=by
 have H:∀n m:Fin 16,bits BinOp.or IntKind.i64 (wrap64 ((n.val:Int)*16)) (m.val:Int) % 256=16*(n.val:Int)+(m.val:Int):=by decide +kernel
 have:=H ⟨k.toNat,by omega⟩ ⟨l.toNat,by omega⟩;simp only[UM b,UM h2] at this;exact this
def iW (l:List UInt8)(w:M)(e:Ending)(b:M):Prop:=(match dC l with|some (c,_)=>e=ZF (.tuple #[J .u8 c.toNat,J I (enc c).length,.nilIface])|none=>∃t p,e=ZF (.tuple #[J .u8 0,J I 0,.iface t p]))/\∃m,b=w.drewN m
theorem kW (h:dC l=Y){c:TypeId}{b:Value}(m:Nat):iW l w (ZF (.tuple #[J .u8 0,J I 0,.iface c b])) (w.drewN m):=by unfold iW;rw[h];exact⟨⟨c,b,rfl⟩,m,rfl⟩
theorem xm{r:List UInt8}(h:dC l=T (c,r)){n:Int}(hn:n=(enc c).length)(m:Nat):iW l w (ZF (.tuple #[J .u8 c.toNat,J I n,.nilIface])) (w.drewN m):=by unfold iW;rw[h];exact⟨by rw[hn],m,rfl⟩
theorem H6 (s:ByteArray)(a b:UInt8)(l:List UInt8)(w:M)(c:s.data.toList=92::a::b::l)(u:s.size<=maxLen)(z:EV w 5)(hn:¬ (0<=aT a/\0<=aT b)):Calls Pg 161 #[U s] w λe g=>iW s.data.toList w e g:=by
 have q:Hid (dC s.data.toList=Y):=by show _=_;rw[c,dC,nD (by decide),p7 rfl];show(if _ then _ else _)=_;rw[nD (λh=>hn ⟨h.1,h.2.1⟩)]
 unfold maxLen at u;obtain⟨hz,te,pe,hev⟩:=z;have o:s.size=l.length+3:=by have:=aH s;rw[c] at this;simp at this;omega
 have b0:0<s.size:=by omega
 have n:1<s.size:=by omega
 have i:2<s.size:=by omega
 have h0i:(0:Int)<s.size:=by omega
 have h1i:(1:Int)<s.size:=by omega
 have h2i:(2:Int)<s.size:=by omega
 have h3:¬ (s.size:Int)<3:=by omega
 have hc:s[0]'b0=92:=byte_at b0 (by rw[c];rfl);have ha:s[1]'n=a:=byte_at n (by rw[c];rfl);have hb:s[2]'i=b:=byte_at i (by rw[c];rfl);have j:b9 92=ZA:=by decide
 have PB:=er 92;rw[j] at PB;clear c o j;have p:=eV a;have m:=eV b;generalize aT a=x at hn p;generalize aT b=y at hn m;have r:x<0∨(¬ x<0/\y<0):=by omega
 clear hn;rcases r with t|⟨t,p2⟩
 all_goals
  go_enter SE,Q2;go_wp2_with fail;refine(PB _).mono ?_;rintro e g ⟨rfl,f⟩;rw[f];clear f;go_wp2_with (go_at_call 101;(first|go_fit (p _)|go_fit (m _));rintro e g ⟨rfl,f⟩;rw[f];clear f);go_quiet (fail);go_wp2;go_ret3;exact kW q.out nq
theorem vT (s:ByteArray)(a b:UInt8)(r:List UInt8)(w:M)(f:s.data.toList=92::a::b::r)(D:s.size<=maxLen)(E:EV w 5)(A:0<=aT a)(p:0<=aT b)(m:b9 (byteOf a b)=ZG):Calls Pg 161 #[U s] w λe l=>iW s.data.toList w e l:=by
 have C:Hid (dC s.data.toList=Y):=by show _=_;rw[f,dC,nD (by decide),p7 rfl];show(if _ then _ else _)=_;rw[nD (λh=>by rw[m] at h;exact absurd h.2.2 (by simp))]
 unfold maxLen at D;obtain⟨hz,te,pe,hev⟩:=E;have z:s.size=r.length+3:=by have:=aH s;rw[f] at this;simp at this;omega
 have b0:0<s.size:=by omega
 have u:1<s.size:=by omega
 have n:2<s.size:=by omega
 have h0i:(0:Int)<s.size:=by omega
 have h1i:(1:Int)<s.size:=by omega
 have h2i:(2:Int)<s.size:=by omega
 have h3:¬ (s.size:Int)<3:=by omega
 have hc:s[0]'b0=92:=byte_at b0 (by rw[f];rfl);have ha:s[1]'u=a:=byte_at u (by rw[f];rfl);have hb:s[2]'n=b:=byte_at n (by rw[f];rfl);have q:b9 92=ZA:=by decide
 have PB:=er 92;rw[q] at PB;clear f z q;have B:=eV a;have t:=eV b;have i:=(gC a).2;have g:=(gC b).2;have o:((byteOf a b).toNat:Int)=16*aT a+aT b:=by unfold byteOf;rw[MJ];omega
 have j:=er (byteOf a b);rw[m,o] at j;clear o m;generalize aT a=x at A B j i;generalize aT b=y at p t j g;rw[<-orB x y A i p g] at j;have q1:¬ x<0:=by omega
 have q2:¬ y<0:=by omega
 clear i g;go_enter SE,Q2;go_wp2_with fail;refine(PB _).mono ?_;rintro e l ⟨rfl,c⟩;rw[c];clear c;go_wp2_with (go_at_call 101;(first|go_fit (B _)|go_fit (t _));rintro e l ⟨rfl,c⟩;rw[c];clear c);refine(j _).mono ?_;rintro e l ⟨rfl,c⟩;rw[c];clear c;go_wp2_with fail;go_quiet (fail);go_wp2;go_ret3;exact kW C.out nq
theorem H7 (s:ByteArray)(a b:UInt8)(r:List UInt8)(w:M)(f:s.data.toList=92::a::b::r)(F:s.size<=maxLen)(G:EV w 5)(o:0<=aT a)(m:0<=aT b)(l:b9 (byteOf a b)=ZA):Calls Pg 161 #[U s] w λe n=>iW s.data.toList w e n:=by
 have A:Hid (dC s.data.toList=T (byteOf a b,r)):=by show _=_;rw[f,dC,nD (by decide),p7 rfl];show(if _ then _ else _)=_;rw[p7 ⟨o,m,l⟩]
 have q:Hid ((3:Int)=(enc (byteOf a b)).length):=by show _=_;rw[pp o m l];rfl
 unfold maxLen at F;obtain⟨hz,te,pe,hev⟩:=G;have D:s.size=r.length+3:=by have:=aH s;rw[f] at this;simp at this;omega
 have b0:0<s.size:=by omega
 have C:1<s.size:=by omega
 have t:2<s.size:=by omega
 have h0i:(0:Int)<s.size:=by omega
 have h1i:(1:Int)<s.size:=by omega
 have h2i:(2:Int)<s.size:=by omega
 have h3:¬ (s.size:Int)<3:=by omega
 have hc:s[0]'b0=92:=byte_at b0 (by rw[f];rfl);have ha:s[1]'C=a:=byte_at C (by rw[f];rfl);have hb:s[2]'t=b:=byte_at t (by rw[f];rfl);have u:b9 92=ZA:=by decide
 have PB:=er 92;rw[u] at PB;clear f D u;have E:=eV a;have B:=eV b;have i:=(gC a).2;have h:=(gC b).2;have g:((byteOf a b).toNat:Int)=16*aT a+aT b:=by unfold byteOf;rw[MJ];omega
 have j:=er (byteOf a b);rw[l,g] at j;have g:=ae g;clear l;generalize byteOf a b=z at A q g;generalize aT a=x at o E j i g;generalize aT b=y at m B j h g;have p:=ae (orB x y o i m h);rw[<-p.out] at j;have q1:¬ x<0:=by omega
 have q2:¬ y<0:=by omega
 clear i h;go_enter SE,Q2;go_wp2_with fail;refine(PB _).mono ?_;rintro e n ⟨rfl,c⟩;rw[c];clear c;go_wp2_with (go_at_call 101;(first|go_fit (E _)|go_fit (B _));rintro e n ⟨rfl,c⟩;rw[c];clear c);refine(j _).mono ?_;rintro e n ⟨rfl,c⟩;rw[c];clear c;go_wp2;go_ret3;have:=xm A.out q.out (w:=w) 0;rw[g.out,<-p.out] at this;exact this
theorem pG (s:ByteArray)(w:M)(o:s.size<=maxLen)(y:0<s.size)(A:EV w 5):Calls Pg 161 #[U s] w λe n=>iW s.data.toList w e n:=by
 unfold maxLen at o;obtain⟨hz,u,q,l⟩:=A;obtain⟨c,r,j,p⟩:=Dx y;have hc:s[0]=c:=byte_at y (by rw[j];rfl);have h0i:(0:Int)<s.size:=by omega
 have x:=ae p;have g:=ae j;rw[j];clear j p;cases hp:b9 c with
 |true =>have h:=ae (show dC (c::r)=T (c,r) by rw[dC,p7 hp]);have z:=ae (show(enc c).length=1 by unfold enc;rw[p7 hp];rfl);go_enter SE,Q2;go_wp2_with (go_at_call 93;refine(er c _).mono ?_;rintro e n ⟨rfl,rfl⟩;rw[hp]);go_ret3;exact xm h.out (by rw[z.out];rfl) 0
 |false =>
  have f:¬ b9 c=ZG:=by rw[hp];simp
  by_cases i:c=92
  ·subst i;rcases r with _|⟨a,_|⟨b,t⟩⟩
   ·have h:=ae (show dC (92::[])=Y by rw[dC,nD f,p7 rfl];rfl);have h3:(s.size:Int)<3:=by have:=x.out;simp at this;omega
    clear f;go_enter SE,Q2;go_wp2_with (go_at_call 93;refine(er 92 _).mono ?_;rintro e n ⟨rfl,rfl⟩;rw[hp]);go_quiet (fail);go_wp2;go_ret3;exact kW h.out nq
   ·have h:=ae (show dC (92::[a])=Y by rw[dC,nD f,p7 rfl];rfl);have h3:(s.size:Int)<3:=by have:=x.out;simp at this;omega
    clear f;go_enter SE,Q2;go_wp2_with (go_at_call 93;refine(er 92 _).mono ?_;rintro e n ⟨rfl,rfl⟩;rw[hp]);go_quiet (fail);go_wp2;go_ret3;exact kW h.out nq
   ·by_cases m:0<=aT a/\0<=aT b
    ·cases hq:b9 (byteOf a b) with
     |true=>exact g.out ▸ vT s a b t w g.out (by unfold maxLen;exact o) ⟨hz,u,q,l⟩ m.1 m.2 hq
     |false=>exact g.out ▸ H7 s a b t w g.out (by unfold maxLen;exact o) ⟨hz,u,q,l⟩ m.1 m.2 hq
    {exact g.out ▸ H6 s a b t w g.out (by unfold maxLen;exact o) ⟨hz,u,q,l⟩ m}
  ·have h:=ae (show dC (c::r)=Y by rw[dC,nD f,nD i]);have hne:((c.toNat:Int) != 92)=ZG:=by have:c.toNat≠92:=λe=>i (by rw[<-QG];exact e);simp;omega
   clear f i;go_enter SE,Q2;go_wp2_with (go_at_call 93;refine(er c _).mono ?_;rintro e n ⟨rfl,rfl⟩;rw[hp]);go_quiet (fail);go_wp2;go_ret3;exact kW h.out nq
