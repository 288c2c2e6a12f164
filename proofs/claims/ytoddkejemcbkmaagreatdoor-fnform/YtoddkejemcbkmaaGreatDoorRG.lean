import Derived.Test.YtoddkejemcbkmaaGreatDoorRB
import Derived.Test.YtoddkejemcbkmaaGreatDoorRF
set_option maxRecDepth 100000
set_option maxHeartbeats 8000000
set_option linter.unusedSimpArgs false
open Go renaming Addr.mk->Q,Value.slice->Z,Value.string->U,Value.int->J,Value.bool->ZD,Obj.cells->N,IntKind.i64->I,World->M,Value->ZC,Ending.returned->ZF,Proofs.Tryz.prog->Pg
open Option renaming none->Y,some->T
open Bool renaming false->ZA,true->ZG
namespace Go.Proofs.YtoddkejemcbkmaaGreatDoor.Vp
open Tryz RowKit
variable {n i f p m:Nat}{S l:List UInt8}{s:ByteArray}
theorem iL (c:UInt8)(w:M):Calls Pg 106 #[J .u8 c.toNat] w λe j=>e=ZF (J I (aT c))/\j=w:=by
 have hc:=c.toNat_lt;have hn:(48<=(c.toNat:Int)/\(c.toNat:Int)<=57/\aT c=(c.toNat:Int) - 48)∨(48<=(c.toNat:Int)/\¬ (c.toNat:Int)<=57/\97<=(c.toNat:Int)/\(c.toNat:Int)<=102/\aT c=(c.toNat:Int) - 87)∨(¬ 48<=(c.toNat:Int)/\¬ 97<=(c.toNat:Int)/\aT c=-1)∨(48<=(c.toNat:Int)/\¬ (c.toNat:Int)<=57/\¬ 97<=(c.toNat:Int)/\aT c=-1)∨(48<=(c.toNat:Int)/\¬ (c.toNat:Int)<=57/\97<=(c.toNat:Int)/\¬ (c.toNat:Int)<=102/\aT c=-1):=by
  unfold aT;split;{omega};{split<;>omega}
 rcases hn with ⟨b,f,h⟩|⟨b,f,g,i,h⟩|⟨b,f,h⟩|⟨b,f,g,h⟩|⟨b,f,g,i,h⟩
 all_goals
  rw[h];clear h;go_enter func106,ntmps106;go_wp2;go_ret;exact⟨by go_num,rfl⟩
theorem take_at{k:Nat}(h:k<s.size):s.data.toList.take (k+1)=s.data.toList.take k++[s[k]]:=by rw[OV (by simpa using h)];rfl
theorem Ae (l:List UInt8)(c:UInt8):bP 0 (l++[c])=bP 0 l*10+c.toNat - 48:=by rw[oC];rfl
theorem FX:∀(l:List UInt8),l.length<=6->-1000000000<=bP 0 l/\bP 0 l<=1000000000:=by
 intro l h;match l,h with
 |[],_=>decide
 |[a],_=>simp only[bP];have:=a.toNat_lt;omega
 |[a,b],_=>simp only[bP];have:=a.toNat_lt;have:=b.toNat_lt;omega
 |[a,b,c],_=>simp only[bP];have:=a.toNat_lt;have:=b.toNat_lt;have:=c.toNat_lt;omega
 |[a,b,c,d],_=>simp only[bP];have:=a.toNat_lt;have:=b.toNat_lt;have:=c.toNat_lt;have:=d.toNat_lt;omega
 |[a,b,c,d,e],_=>simp only[bP];have:=a.toNat_lt;have:=b.toNat_lt;have:=c.toNat_lt;have:=d.toNat_lt;have:=e.toNat_lt;omega
 |[a,b,c,d,e,f],_=>simp only[bP];have:=a.toNat_lt;have:=b.toNat_lt;have:=c.toNat_lt;have:=d.toNat_lt;have:=e.toNat_lt;have:=f.toNat_lt;omega
 |a::b::c::d::e::f::g::r,h=>simp at h
theorem jH (s:ByteArray)(w:M)(hs:s.size<=16777216):Calls Pg 62 #[U s] w λe h=>e=ZF (J I (bP 0 (s.data.toList.take 6)))/\h=w:=by
 go_enter func62,ntmps62;go_wp2;go_loopw [3,4] (λv i wr=>∃k:Nat,k<=s.size/\k<=6/\i=J I k/\v=J I (bP 0 (s.data.toList.take k))/\wr=w) (λ_ i _=>s.size - (intOf i).toNat);case atStart=>exact⟨0,by omega,by omega,rfl,rfl,rfl⟩
 case round =>
  obtain⟨k,hk,hk6,rfl,rfl,rfl⟩:=hrel;by_cases c:k<s.size
  ·by_cases h6:k<6
   ·have b:=ae (show bP 0 (s.data.toList.take (k+1))=bP 0 (s.data.toList.take k)*10+s[k].toNat - 48 by rw[take_at c,Ae]);have hb:=FX (s.data.toList.take k) (by rw[MO];omega);have hc:=s[k].toNat_lt;have f:(k:Int)<s.size:=by omega
    have i2:(k:Int)<6:=by omega
    generalize bP 0 (s.data.toList.take k)=x at hb b ⊢;go_wp2;exact⟨⟨k+1,by omega,by omega,by go_num,by rw[b.out],trivial⟩,by simp[intOf];omega⟩
   ·obtain rfl:k=6:=by omega
    have f:(6:Int)<s.size:=by omega
    go_wp2;go_ret;exact⟨rfl,rfl⟩
  ·have g:=ae (show s.data.toList.take 6=s.data.toList.take k by
    rw[KK (by rw[NY,ByteArray.size_data];omega),KK (by rw[NY,ByteArray.size_data];omega)])
   have f:¬ (k:Int)<s.size:=by omega
   go_wp2;go_ret;exact⟨by rw[g.out];rfl,rfl⟩
def rem (l:List UInt8)(i:Nat):List UInt8:=(l.drop i).take (l.length - 1 - i)
theorem oK (h:i+1<l.length):rem l i=l[i]::rem l (i+1):=by unfold rem;rw[PL (by omega),show l.length - 1 - i=(l.length - 1 - (i+1))+1 by omega,List.take_succ_cons]
theorem FY (h:¬ i+1<l.length):rem l i=[]:=by unfold rem;rw[show l.length - 1 - i=0 by omega,List.take_zero]
theorem Af (l:List UInt8):rem l 1=bR l:=by unfold rem bR;rw[show l.length - 1 - 1=l.length - 2 by omega]
theorem Dc{c:UInt8}:∀{r:List UInt8},(∀a b f,r=a::b::f->¬ (c=92/\0<=aT a/\0<=aT b))->bc (c::r)=c::bc r
 |[],_=>by simp[bc]
 |[a],_=>by simp[bc]
 |a::b::r,h=>by rw[bc,nD (h a b r rfl)]
theorem Ag{k:Nat}(h:¬ k+3<l.length){a b:UInt8}{r:List UInt8}:rem l (k+1)≠a::b::r:=by intro e;have:=AP List.length e;unfold rem at this;rw[MO,MI] at this;simp at this;omega
theorem FZ{k:Nat}(h:k+3<l.length):rem l (k+1)=l[k+1]::l[k+2]::rem l (k+3):=by rw[oK (by omega),oK (by omega)]
theorem ixS (s:ByteArray)(x:Int)(i:Nat)(b:x=i)(h:i<s.size)(w:M):(Instr.index 9 (U s) (J I x)).run Pg w=.ok (J .u8 s.data.toList[i].toNat) w:=by subst b;rw[run_index_string w 9 s I (i:Int) IN];simp[h];rfl
theorem Dj (w:M)(b g cap:Nat)(l:List UInt8)(h:Bs w b (Z (T (Q g 0 Y)) l.length cap) l):(convert 22 9 (Z (T (Q g 0 Y)) l.length cap)).run Pg w=.ok (U ⟨l.toArray⟩) w :=
 OU w 22 9 5 (Q g 0 Y) cap l MF ND IN (λj c=>h.cell j c)
theorem jf (s:ByteArray)(w:M)(hs:s.size<=16777216):Calls Pg 61 #[U s] w λe r=>e=ZF (U ⟨(bc (bR s.data.toList)).toArray⟩)/\Below w.heap.size w r:=by
  have o:Hid (s.data.toList.length=s.size):=by show _=_;simp
  go_enter func61,ntmps61;go_wp2;go_loopw [3,4] (λv i wr=>∃(k g cap:Nat) (l:List UInt8),1<=k/\k<=s.size+1/\i=J I k/\v=Z (T (Q g 0 Y)) l.length cap/\Hid (Bs wr w.heap.size v l)/\Hid (l++bc (rem s.data.toList k)=bc (bR s.data.toList))/\l.length<=k/\Hid (Below w.heap.size w wr)) (λ_ i _=>s.size+2 - (intOf i).toNat);case atStart=>exact⟨1,w.heap.size,0,[],by omega,by omega,rfl,rfl,Bs.lit w _ [] ly (by unfold maxLen;simp) _ rfl,(by rw[Af];rfl),by simp,br.alloc ly _⟩
  case round =>
    obtain⟨k,g,cap,l,hk1,hk2,rfl,rfl,u,ZL,hlk,E⟩:=hrel;have ZP:w.heap.size<=wr.heap.size:=E.out.size;by_cases hlt:k+1<s.size
    · have i1:(k:Int)+1<s.size:=by omega
      have X:k+1<s.data.toList.length:=by rw[o.out];omega
      have S:=ae (oK (l:=s.data.toList) X);obtain⟨c,R⟩:∃c,c=s.data.toList[k]:=⟨_,rfl⟩
      rw[<-R] at S;have X0:=λV=>ixS s (k:Int) k rfl (by omega) V;rw[<-R] at X0;clear R;have cl:=c.toNat_lt;obtain⟨a,ZI⟩:∃a,a=s.data.toList[k+1]?.getD 0:=⟨_,rfl⟩
      obtain⟨b,hb⟩:∃b,b=s.data.toList[k+2]?.getD 0:=⟨_,rfl⟩
      have ZM:=ae (λ(h3:k+3<s.size)=>(show s.data.toList[k+1]'(by rw[o.out];omega)=a by rw[ZI,gq (by rw[o.out];omega)];rfl));have z:=ae (λ(h3:k+3<s.size)=>(show s.data.toList[k+2]'(by rw[o.out];omega)=b by rw[hb,gq (by rw[o.out];omega)];rfl));have W:=ae (λ(h3:k+3<s.size)=>(show rem s.data.toList (k+1)=a::b::rem s.data.toList (k+3) by rw[FZ (by rw[o.out];exact h3),ZM.out h3,z.out h3]));have L:Hid (¬ (c=92/\k+3<s.size/\0<=aT a/\0<=aT b)->bc (rem s.data.toList k)=c::bc (rem s.data.toList (k+1))):=λm=>by
        rw[S.out];refine Dc λa' b' r' e h=>m ⟨h.1,?_⟩;by_cases h3:k+3<s.size;{rw[W.out h3] at e;simp only[List.cons.injEq] at e;exact⟨h3,by rw[e.1];exact h.2.1,by rw[e.2.1];exact h.2.2⟩};{exact absurd e (Ag (by rw[o.out];exact h3))}
      clear ZI hb;by_cases m:c=92/\k+3<s.size/\0<=aT a/\0<=aT b
      · obtain⟨rfl,h3,ZO,K⟩:=m;have i3:(k:Int)+3<s.size:=by omega
        have F:=λV=>ixS s ((k:Int)+1) (k+1) (by omega) (by omega) V;have D:=λV=>ixS s ((k:Int)+2) (k+2) (by omega) (by omega) V;rw[ZM.out h3] at F;rw[z.out h3] at D;have ZJ:=(gC a).2;have ZK:=(gC b).2;have A:Hid (16*aT a+aT b=((byteOf a b).toNat:Int)):=by show _=_;unfold byteOf;rw[MJ];omega
        have ZQ:Hid (bc (rem s.data.toList k)=byteOf a b::bc (rem s.data.toList (k+3))):=by show _=_;rw[S.out,W.out h3,bc,p7 ⟨rfl,ZO,K⟩]
        have t:=iL a;have q:=iL b;generalize aT a=x at ZJ ZO t A ⊢;generalize aT b=y at ZK K q A ⊢;go_wp2_with (go_at_call 106;(first|go_fit (t _)|go_fit (q _));rintro e r ⟨rfl,f⟩;rw[f];clear f);have e1:IntKind.i64.wrap ((k:Int)+1)=(k:Int)+1:=by rw[wA];omega
        have e2:IntKind.i64.wrap ((k:Int)+2)=(k:Int)+2:=by rw[wA];omega
        have e3:IntKind.i64.wrap (16*x)=16*x:=by rw[wA];omega
        have e4:IntKind.i64.wrap (16*x+y)=16*x+y:=by rw[wA];omega
        have e5:IntKind.u8.wrap (16*x+y)=16*x+y:=by rw[QS];omega
        have O:=ae (u.out.aa ((q9 wr).alloc ly (N #[J .u8 (16*x+y)] 5)).drew ly)
        go_region_law (first
          | (refine gi rfl (.tmp 40) (.tmp 54) rfl w.heap.size (Z (T (Q g 0 Y)) l.length cap) l (by simp[Act.eval]) O.out (Q wr.heap.size 0 Y) 1 [byteOf a b] (by simp[Act.eval]) (gA (by simp[A.out])) (by simp only[eT,nX];omega) (by simp;omega) ?_
             intro v' wZ j n;obtain⟨ZN,p,rfl,_,_⟩:=j.aq (by simp);have C:=ae j;have B:Hid (Below w.heap.size w wZ):=(E.out.alloc ZP _).drew.grown n (by simp;omega) (λx m=>(P6 u.out x m).1)
             clear j n)
          |(go_simp;go_at_call 106;(first|go_fit (t _)|go_fit (q _));rintro e r ⟨rfl,f⟩;rw[f];clear f))
        all_goals
          go_wp2;exact⟨⟨k+3,ZN,p,l++[byteOf a b],by omega,by omega,by go_num,by simp,(by have:=C.out;simp only[cM,eT,nX,F6] at this;exact this),(by rw[<-ZL.out,ZQ.out,MV];rfl),by simp;omega,B.out⟩,by simp[intOf];omega⟩
      · have HN:=ae (L.out m);have hn:(((c.toNat:Int) == 92)=ZA)∨(((c.toNat:Int) == 92)=ZG/\¬ (k:Int)+3<s.size)∨(((c.toNat:Int) == 92)=ZG/\(k:Int)+3<s.size/\¬ 0<=aT a)∨(((c.toNat:Int) == 92)=ZG/\(k:Int)+3<s.size/\0<=aT a/\¬ 0<=aT b):=by
          by_cases H:c=92
          · subst H;by_cases h3:k+3<s.size
            · have:(k:Int)+3<s.size:=by omega
              by_cases h4:0<=aT a;{exact .inr (.inr (.inr ⟨rfl,this,h4,λh5=>m ⟨rfl,h3,h4,h5⟩⟩))};{exact .inr (.inr (.inl ⟨rfl,this,h4⟩))}
            {exact .inr (.inl ⟨rfl,by omega⟩)}
          {refine .inl ?_;have:¬ (c.toNat:Int)=92:=λe=>H (by rw[<-QG];show c.toNat=92;omega);simpa using this}
        clear m L;have F:=λ(h3:(k:Int)+3<s.size) V=>(show(Instr.index 9 (U s) (J I ((k:Int)+1))).run Pg V=.ok (J .u8 a.toNat) V by have:=ixS s ((k:Int)+1) (k+1) (by omega) (by omega) V;rw[ZM.out (by omega)] at this;exact this)
        have D:=λ(h3:(k:Int)+3<s.size) V=>(show(Instr.index 9 (U s) (J I ((k:Int)+2))).run Pg V=.ok (J .u8 b.toNat) V by have:=ixS s ((k:Int)+2) (k+2) (by omega) (by omega) V;rw[z.out (by omega)] at this;exact this)
        have t:=iL a;have q:=iL b;generalize aT a=x at t hn ⊢;generalize aT b=y at q hn ⊢;have O:=ae (u.out.aa ((q9 wr).alloc ly (N #[J .u8 c.toNat] 5)) ly);rcases hn with P|⟨P,G⟩|⟨P,G,p3⟩|⟨P,G,p3,p4⟩
        all_goals
          try have F:=F G
          try have D:=D G
          go_wp2_with (first
            |(go_at_call 106;(first|go_fit (t _)|go_fit (q _));rintro e r ⟨rfl,f⟩;rw[f];clear f)
            |(at_builtin;refine mG rfl (.tmp 58) (.tmp 62) rfl w.heap.size _ l rfl O.out (Q wr.heap.size 0 Y) 1 [c] rfl (gA (by simp)) (by simp only[eT,nX];omega) (by simp;omega) ?_))
          intro v' r j n;obtain⟨ZN,p,rfl,_,_⟩:=j.aq (by simp);have C:=ae j;have B:Hid (Below w.heap.size w r):=(E.out.alloc ZP _).grown n (by simp;omega) (λx m=>(P6 u.out x m).1);clear j n;go_wp2;exact⟨⟨k+1,ZN,p,l++[c],by omega,by omega,by go_num,rfl,C.out,(by rw[<-ZL.out,HN.out,MV];rfl),by simp;omega,B.out⟩,by simp[intOf];omega⟩
    · have i1:¬ (k:Int)+1<s.size:=by omega
      have ZQ:Hid (l=bc (bR s.data.toList)):=by show _=_;rw[<-ZL.out,FY (by rw[o.out];omega)];simp[bc]
      have hcv:=Dj wr _ g cap l u.out;go_wp2;go_ret;exact⟨by rw[<-ZQ.out];rfl,E.out⟩
theorem Ah (w:M)(e:TypeId)(size:Nat):(w.alloc (N #[] e)).ownsRow w.heap.size e size (Z (T (Q w.heap.size 0 Y)) 0 0) 0 [] :=
 ⟨by simp,.inr ⟨w.heap.size,0,#[],rfl,n8 _,n6 w _,n8 _,by unfold maxLen;omega,by simp,by simp⟩⟩
theorem oL:(Pg.info? 9).map (λi=>(i.zero,i.size,i.bytes))=T (T (U ⟨#[]⟩),1,16):=by kernel_rfl
def cI (L:List (List UInt8)):List ZC:=L.map λl=>U ⟨l.toArray⟩
theorem j5 (L:List (List UInt8))(l:List UInt8):cI (L++[l])=cI L++[U ⟨l.toArray⟩]:=by simp[cI]
theorem qy (s:ByteArray)(f k:Nat):s.extract f k=⟨((s.data.toList.drop f).take (k - f)).toArray⟩:=by refine MP (PE ?_);simp[NR,OQ,NN]
theorem nE (s:ByteArray)(f:Nat):s.extract f s.size=⟨(s.data.toList.drop f).toArray⟩:=by rw[qy s f s.size,KK (by simp)]
theorem Hv{k:Nat}(hf:f<=k)(c:k<S.length)(b:S[k]=10):S.drop f=(S.drop f).take (k - f)++10::S.drop (k+1):=by have h1:=(NZ (k - f) (S.drop f)).symm;rw[List.drop_drop,show f+(k - f)=k by omega,PL c,b] at h1;exact h1
theorem F0{k:Nat}(hf:f<=k)(hk:k<S.length)(b:S[k]≠10)(hn:(10:UInt8) ∉ (S.drop f).take (k - f)):(10:UInt8) ∉ (S.drop f).take (k+1 - f):=by
 have c:k - f<(S.drop f).length:=by rw[MI];omega
 rw[show k+1 - f=(k - f)+1 by omega,OV c];intro h;rcases p8.1 h with h|h;{exact hn h};{simp only[List.getElem_drop,nL] at h;simp only[show f+(k - f)=k by omega] at h;exact b h.symm}
theorem kF{e:TypeId}{z:ZC}{a b:Nat}(h:(Pg.info? e).map (λi=>(i.zero,i.size,i.bytes))=T (T z,a,b)):∃i,Pg.info? e=T i/\i.zero=T z/\i.size=a/\i.bytes=b:=by obtain⟨i,hi,hz⟩:=MN.1 h;simp only[MG] at hz;exact⟨i,hi,hz⟩
theorem Ai (s:ByteArray)(w:M)(hs:s.size<=16777216):Calls Pg 59 #[U s] w λe P=>∃g cap,e=ZF (Z (T (Q g 0 Y)) (aL s.data.toList).length cap)/\P.ownsRow w.heap.size 9 1 (Z (T (Q g 0 Y)) (aL s.data.toList).length cap) (aL s.data.toList).length (cI (aL s.data.toList))/\(aL s.data.toList).length<=s.size+1/\Below w.heap.size w P:=by
 have R:Hid (s.data.toList.length=s.size):=by show _=_;simp
 obtain⟨ZM,hi,B,F,x⟩:=kF oL;go_enter func59,ntmps59;go_wp2;go_loopw [3,4,5] (λv p i wr=>∃(k f g cap:Nat) (L:List (List UInt8)),f<=k/\k<=s.size/\i=J I k/\p=J I f/\v=Z (T (Q g 0 Y)) L.length cap/\Hid (wr.ownsRow w.heap.size 9 1 v L.length (cI L))/\Hid (aL s.data.toList=L++aL (s.data.toList.drop f))/\Hid ((10:UInt8) ∉ (s.data.toList.drop f).take (k - f))/\L.length<=k/\Hid (Below w.heap.size w wr)) (λ_ _ i _=>s.size - (intOf i).toNat);case atStart=>exact⟨0,0,w.heap.size,0,[],by omega,by omega,rfl,rfl,rfl,Ah w _ _,by simp[Hid],by simp[Hid],by simp,br.alloc ly _⟩
 case round =>
  obtain⟨k,f,g,cap,L,A,hks,rfl,rfl,rfl,o,H,G,hLk,t⟩:=hrel;have z:w.heap.size<=wr.heap.size:=t.out.size;have c1:(0:Int)<=f:=by omega
  have c2:(f:Int)<=k:=by omega
  have c3:(k:Int)<=s.size:=by omega
  have c4:(f:Int)<=s.size:=by omega
  by_cases y:k<s.size
  ·have S:(k:Int)<s.size:=by omega
   have D:k<s.data.toList.length:=by rw[R.out];exact y
   have ZO:=λV=>ixS s (k:Int) k rfl y V;have E:=ae (λh=>Hv A D h);have u:=ae (λh=>F0 A D h G.out);generalize s.data.toList[k]=c at ZO E u;by_cases q:c=10;{subst q;have ZO:∀V,(Instr.index 9 (U s) (J I (k:Int))).run Pg V=.ok (J .u8 10) V:=ZO;have O:=ae (E.out rfl);have K:=ae (qy s f k);go_wp2_with (at_builtin;refine BS _ rfl (.tmp 17) (.tmp 22) 66 rfl w.heap.size 9 ZM (U ⟨#[]⟩) 1 16 IH hi B F x rfl (by decide) _ L.length (cI L) (by simp[Act.eval]) (o.out.alloc _) (Q wr.heap.size 0 Y) 1 1 [U (s.extract f k)] (by simp[Act.eval]) rfl (ci wr _ _) (by simp[Value.oneCell']) (by unfold maxLen;omega) (by omega) (by simp;omega) ?_;intro ZK ZL b l m;obtain⟨ZQ,n,rfl⟩:=dl b (by omega);have ZP:=ae b;have ZN:=ae (bg (t.out.alloc z (N #[U (s.extract f k)] 9)) l (by simp;omega) (λj e=>(o.out.lt j e).1));clear b l m);refine⟨⟨k+1,k+1,ZQ,n,L++[(s.data.toList.drop f).take (k - f)],by omega,by omega,by go_num,by go_num,by simp,?_,?_,by simp[Hid],by simp;omega,ZN.out⟩,by simp[intOf];omega⟩;{show World.ownsRow _ _ _ _ _ _ _;rw[j5,<-K.out];simp only[cM,eT,nX,F6];exact ZP.out};{show _=_;rw[H.out,O.out,jZ _ G.out];rw[<-O.out];simp}};{have hne:((c.toNat:Int) == 10)=ZA:=(by have:¬ (c.toNat:Int)=10:=λe=>q (by rw[<-QG];show c.toNat=10;omega);simpa using this);go_wp2;exact⟨⟨k+1,f,g,cap,L,by omega,by omega,by go_num,rfl,rfl,o.out,H.out,u.out q,by omega,t.out⟩,by simp[intOf];omega⟩}
  ·obtain rfl:k=s.size:=by omega
   have K:=ae (nE s f);have C:Hid (aL s.data.toList=L++[s.data.toList.drop f]):=by show _=_;have:=G.out;rw[KK (by rw[MI,R.out];omega)] at this;rw[H.out,mI this]
   have S:¬ ((s.size:Nat):Int)<s.size:=by omega
   go_wp2_with (at_builtin;refine BS _ rfl (.tmp 26) (.tmp 30) 66 rfl w.heap.size 9 ZM (U ⟨#[]⟩) 1 16 IH hi B F x rfl (by decide) _ L.length (cI L) (by simp[Act.eval]) (o.out.alloc _) (Q wr.heap.size 0 Y) 1 1 [U (s.extract f s.size)] (by simp[Act.eval]) rfl (ci wr _ _) (by simp[Value.oneCell']) (by unfold maxLen;omega) (by omega) (by simp;omega) ?_;intro ZK ZL b l m;obtain⟨ZQ,n,rfl⟩:=dl b (by omega);have ZP:=ae b;have ZN:=ae (bg (t.out.alloc z (N #[U (s.extract f s.size)] 9)) l (by simp;omega) (λj e=>(o.out.lt j e).1));clear b l m);go_ret;have r:(aL s.data.toList).length=L.length+1:=by rw[C.out];simp
   refine⟨ZQ,n,by rw[r];rfl,?_,by omega,ZN.out⟩;rw[r,C.out,j5,<-K.out];exact ZP.out
def sU:Ins:=⟨0,⟨#[]⟩,0⟩
def jI:Link:=⟨⟨#[]⟩,ZA,ZA,0⟩
def Deed.doA (d:Deed)(x:Ins):Deed:={ d with f:=d.f+1,G:=λj=>if j=d.f then x else d.G j }
def Deed.lkA (d:Deed)(l:Link):Deed:={ d with b:=d.b+1,m:=λj=>if j=d.b then l else d.m j }
def aQ (name:ByteArray)(kind code:Int)(text:ByteArray):Deed:={ e:=name,E:=kind,B:=code,h:=text,f:=0,G:=λ_=>sU,b:=0,m:=λ_=>jI }
def norm (d:Deed):Deed:={ d with G:=λj=>if j<d.f then d.G j else sU,m:=λj=>if j<d.b then d.m j else jI }
def Good (X:List Deed)(ZJ:List UInt8)(ZI:List Deed):Prop :=
 (∃(D:List Deed) (n:Nat),X=D/\ZJ=([97,99,99,111,117,110,116,32]++Lib.decDigits n)/\ZI=D) ∨
 (∃(D:List Deed),X=D/\ZJ=[101,110,100]/\ZI=D) ∨
 (∃(D:List Deed) (d:Deed),(32:UInt8) ∉ d.e.data.toList/\X=D/\ZJ=(ix d)/\ZI=(D++[aQ d.e 1 0 d.h])) ∨
 (∃(D:List Deed) (d:Deed),(32:UInt8) ∉ d.e.data.toList/\X=D/\ZJ=(fO d)/\ZI=(D++[aQ d.e 2 0 ⟨#[]⟩])) ∨
 (∃(D:List Deed) (d:Deed),(32:UInt8) ∉ d.e.data.toList/\0<=d.B/\d.B<=5/\X=D/\ZJ=(eB d)/\ZI=(D++[aQ d.e 3 d.B d.h])) ∨
 (∃(D:List Deed) (d:Deed) (x:Ins),aG x.op x.s.size x.n=ZG/\X=(D++[d])/\ZJ=(doT x)/\ZI=(D++[d.doA x])) ∨
 (∃(D:List Deed) (d:Deed) (l:Link),(32:UInt8) ∉ l.e.data.toList/\0<=l.L/\l.L<=400/\((l.ask=ZG->l.has=ZA))/\((l.ask=ZA->l.L=0))/\X=(D++[d])/\ZJ=(dG l)/\ZI=(D++[d.lkA l]))
theorem Good.acc (D:List Deed)(n:Nat):Good D ([97,99,99,111,117,110,116,32]++Lib.decDigits n) D:=.inl ⟨D,n,rfl,rfl,rfl⟩
theorem Good.fin (D:List Deed):Good D [101,110,100] D:=.inr (.inl ⟨D,rfl,rfl,rfl⟩)
theorem Good.src (D:List Deed)(d:Deed)(b:(32:UInt8) ∉ d.e.data.toList):Good D (ix d) (D++[aQ d.e 1 0 d.h]):=.inr (.inr (.inl ⟨D,d,b,rfl,rfl,rfl⟩))
theorem Good.non (D:List Deed)(d:Deed)(b:(32:UInt8) ∉ d.e.data.toList):Good D (fO d) (D++[aQ d.e 2 0 ⟨#[]⟩]):=.inr (.inr (.inr (.inl ⟨D,d,b,rfl,rfl,rfl⟩)))
theorem Good.K (D:List Deed)(d:Deed)(b:(32:UInt8) ∉ d.e.data.toList)(h1:0<=d.B)(h2:d.B<=5):Good D (eB d) (D++[aQ d.e 3 d.B d.h]):=.inr (.inr (.inr (.inr (.inl ⟨D,d,b,h1,h2,rfl,rfl,rfl⟩))))
theorem Good.G (D:List Deed)(d:Deed)(x:Ins)(b:aG x.op x.s.size x.n=ZG):Good (D++[d]) (doT x) (D++[d.doA x]):=.inr (.inr (.inr (.inr (.inr (.inl ⟨D,d,x,b,rfl,rfl,rfl⟩)))))
theorem Good.V (D:List Deed)(d:Deed)(l:Link)(b:(32:UInt8) ∉ l.e.data.toList)(h1:0<=l.L)(h2:l.L<=400)(h3:(l.ask=ZG->l.has=ZA))(h4:(l.ask=ZA->l.L=0)):Good (D++[d]) (dG l) (D++[d.lkA l]):=.inr (.inr (.inr (.inr (.inr (.inr ⟨D,d,l,b,h1,h2,h3,h4,rfl,rfl,rfl⟩)))))
def bC:List Deed->List (List UInt8)->List Deed->Prop
 |D,[],E=>D=E
 |D,l::ls,E=>∃G,Good D l G/\bC G ls E
theorem fx:∀{a b:List (List UInt8)} {D E F:List Deed},bC D a E->bC E b F->bC D (a++b) F
 |[],_,_,_,_,h,k=>by rw[show _=_ from h];exact k
 |_::_,_,_,_,_,⟨G,h1,h2⟩,k=>⟨G,h1,fx h2 k⟩
theorem fT{D E:List Deed}(h:Good D l E):bC D [l] E:=⟨E,h,rfl⟩
def tI (g:Nat->Ins)(n:Nat):List (List UInt8):=(List.range n).map λk=>doT (g k)
def tJ (g:Nat->Link)(n:Nat):List (List UInt8):=(List.range n).map λk=>dG (g k)
def gU (d:Deed):List (List UInt8):=if d.E=1 then [ix d] else if d.E=2 then [fO d] else eB d::(tI d.G d.f++tJ d.m d.b++[[101,110,100]])
def tK (f:Nat->Deed)(n:Nat):List (List UInt8):=([97,99,99,111,117,110,116,32]++Lib.decDigits n)::(List.range n).flatMap λp=>gU (f p)
def fE (b:List (List UInt8)):List UInt8:=b.flatMap λl=>l++[10]
theorem iy (a b:List (List UInt8)):fE (a++b)=fE a++fE b:=by simp[fE]
theorem xd (g:Nat->Ins):∀n,fE (tI g n)=fh g n
 |0=>rfl
 |n+1=>by have b:=xd g n;unfold tI at b ⊢;rw[MY,BG,iy,b,fh];simp[fE]
theorem xe (g:Nat->Link):∀n,fE (tJ g n)=ee g n
 |0=>rfl
 |n+1=>by have b:=xe g n;unfold tJ at b ⊢;rw[MY,BG,iy,b,ee];simp[fE]
theorem Aj (d:Deed):fE (gU d)=dH d:=by
 unfold gU dH;split;{simp[fE]};{split;{simp[fE]};{rw[show ∀(x:List UInt8) (l:List (List UInt8)),x::l=[x]++l from λ_ _=>rfl,iy,iy,iy,xd,xe,mK];simp[fE]}}
theorem rD (f:Nat->Deed)(n:Nat):∀k,fE (([97,99,99,111,117,110,116,32]++Lib.decDigits n)::(List.range k).flatMap λp=>gU (f p))=aN f n k
 |0=>by simp[fE,aN]
 |k+1=>by have b:=rD f n k;rw[MY,BM,<-IS,iy,b,aN];simp[Aj]
def fP (d:Deed)(k:Nat):Deed:={ aQ d.e 3 d.B d.h with f:=k,G:=λj=>if j<k then d.G j else sU }
def gV (d:Deed)(k:Nat):Deed:={ fP d d.f with b:=k,m:=λj=>if j<k then d.m j else jI }
theorem yq (d:Deed)(k:Nat):(fP d k).doA (d.G k)=fP d (k+1):=by
 unfold Deed.doA fP;simp only[Deed.mk.injEq,QR,and_true];funext j;by_cases h:j=k;{subst h;simp};{simp only[nD h];by_cases h2:j<k;{rw[p7 h2,p7 (by omega)]};{rw[nD h2,nD (by omega)]}}
theorem yr (d:Deed)(k:Nat):(gV d k).lkA (d.m k)=gV d (k+1):=by
 unfold Deed.lkA gV;simp only[Deed.mk.injEq,QR];funext j;by_cases h:j=k;{subst h;simp};{simp only[nD h];by_cases h2:j<k;{rw[p7 h2,p7 (by omega)]};{rw[nD h2,nD (by omega)]}}
theorem xf {d:Deed}(D:List Deed)(h:dA d.G d.f=ZG):∀k,k<=d.f->bC (D++[fP d 0]) (tI d.G k) (D++[fP d k])
 |0,_=>rfl
 |k+1,hk=>by
  have b:=xf D h k (by omega);have g:Good (D++[fP d k]) (doT (d.G k)) (D++[fP d (k+1)]):=by rw[<-yq];exact Good.G D _ _ (gL h (by omega))
  unfold tI at b ⊢;rw[MY,BG];exact fx b (fT g)
theorem px (h:aw s=ZG):∀c∈s.data.toList,33<=c.toNat/\c.toNat<=126:=by
 unfold aw at h;rw[zA] at h;intro c f;obtain⟨k,b,rfl⟩:=SJ f;have hk':k<s.size:=by simpa using b
 have h2:=nO (show k+1<=s.size by omega) h.2;rw[dJ,zA] at h2;have h3:=h2.2;rw[Array.getElem?_eq_getElem (by simpa using b)] at h3;simpa using h3
theorem j6 (h:aw s=ZG):(32:UInt8) ∉ s.data.toList:=λb=>by have:=(px h 32 b).1;have e:(32:UInt8).toNat=32:=rfl;omega
theorem rE (h:aw s=ZG):(10:UInt8) ∉ s.data.toList:=λb=>by have:=(px h 10 b).1;have e:(10:UInt8).toNat=10:=rfl;omega
theorem xg {f:Nat->Deed}{p:Nat}{d:Deed}(D:List Deed)(j:p<=400)(h:bM f p d d.b=ZG):∀k,k<=d.b->bC (D++[gV d 0]) (tJ d.m k) (D++[gV d k])
 |0,_=>rfl
 |k+1,hk=>by
  have i:=xg D j h k (by omega);have b:=fM h k (by omega);have hz:=iK b;unfold ew at b;rw[zA] at b;have g:Good (D++[gV d k]) (dG (d.m k)) (D++[gV d (k+1)]):=by
   rw[<-yr];refine Good.V D _ _ (j6 b.1) hz.2.1 (by omega) (λc=>?_) λc=>?_
   ·have h2:=b.2
    rw[p7 c] at h2;simp only[zA] at h2;simpa using h2.1.1.1
   ·have h2:=b.2
    rw[nD (by simp[c])] at h2;simpa using h2
  unfold tJ at i ⊢;rw[MY,BG];exact fx i (fT g)
theorem xh{d:Deed}(c:d.f=0)(b:d.b=0):norm d=aQ d.e d.E d.B d.h:=by unfold norm aQ;simp only[Deed.mk.injEq,QR];exact⟨c,by funext j;rw[nD (by omega)],b,by funext j;rw[nD (by omega)]⟩
theorem yt (h:s.size=0):s=⟨#[]⟩:=by
 refine MP (PE ?_);have:s.data.toList.length=0:=by simpa using h
 exact NL.1 this
theorem Ak{f:Nat->Deed}(h:dc f n=ZG)(x:p<n)(D:List Deed):bC D (gU (f p)) (D++[norm (f p)]):=by
 have hn:=fN h;have h1:=fL hn.2.2 p x;simp only[be,zA,kindOk,z8] at h1;obtain⟨⟨c,_⟩,h2⟩:=h1;unfold gU;split at h2;{rename_i b;simp only[aX,zA,z8] at h2;rw[p7 b,xh h2.1.2 h2.2,b,h2.1.1];exact fT (Good.src D _ (j6 c))}
 ·rename_i g;rw[nD g];split at h2;{rename_i b;simp only[aX,zA,z8] at h2;rw[p7 b,xh h2.1.1.2 h2.1.2,b,h2.1.1.1,yt h2.2];exact fT (Good.non D _ (j6 c))}
  ·rename_i i;rw[nD i];split at h2
   ·rename_i b;simp only[cG,zA,z8] at h2;obtain⟨⟨⟨⟨a1,o⟩,m⟩,a4⟩,t⟩:=h2;obtain⟨u,b2,b3⟩:=bO m;have q:aQ (f p).e 3 (f p).B (f p).h=fP (f p) 0:=by unfold fP aQ;simp
    have s:fP (f p) (f p).f=gV (f p) 0:=by unfold gV fP aQ;simp
    have r:gV (f p) (f p).b=norm (f p):=by unfold gV fP aQ norm;simp[b]
    refine⟨_,Good.K D _ (j6 c) a1 o,?_⟩;rw[q];have l:=xf D u _ ly;rw[s] at l;have j:=xg D (by omega) t _ ly;rw[r] at j;exact fx (fx l j) (fT (Good.fin _))
   {cases h2}
theorem Al{f:Nat->Deed}(h:dc f n=ZG):bC [] (tK f n) ((List.range n).map λp=>norm (f p)):=by
 refine⟨[],Good.acc [] n,?_⟩;have b:∀k,k<=n->bC [] ((List.range k).flatMap λp=>gU (f p)) ((List.range k).map λp=>norm (f p)):=by
  intro k;induction k with
  |zero=>intro _;rfl
  |succ k c =>intro hk;rw[MY,BM,BG];refine fx (c (by omega)) ?_;simpa using Ak h (show k<n by omega) _
 exact b n ly
def tL:List (List UInt8)->List (List UInt8)
 |[]=>[]
 |[l]=>if l=[] then [] else [l]
 |l::b::ls=>l::tL (b::ls)
theorem F7{b:List (List UInt8)}(h:b≠[]):tL (l::b)=l::tL b:=by obtain⟨l',ls',rfl⟩:=RP h;rfl
theorem F8 (h:l≠[]):tL [l]=[l]:=nD h
theorem Am:∀b:List (List UInt8),tL (b++[[]])=b
 |[]=>rfl
 |l::b=>by rw[IS,F7 (by simp),Am b]
theorem py:∀{ls:List (List UInt8)},(∀l∈ls,(10:UInt8) ∉ l)->aL (fE ls)=ls++[[]]
 |[],_=>rfl
 |l::ls,h=>by have c:=py (ls:=ls) λx b=>h x (by simp[b]);show aL (l++[10]++fE ls)=_;rw[MV,List.singleton_append,jZ _ (h l (by simp)),c];rfl
theorem pz (t:List UInt8):(10:UInt8) ∉ aJ t:=by
 rw[dw];intro b;simp only[A9,p8,NW,nj,PS] at b;rcases b with (b|⟨c,_,b⟩)|b;{exact absurd b (by decide)};{exact tF c b};{exact absurd b (by decide)}
theorem cQ{a b:List UInt8}(c:(10:UInt8) ∉ a)(hb:(10:UInt8) ∉ b):(10:UInt8) ∉ a++b:=λh=>(p8.1 h).elim c hb
theorem vJ{f:Nat->Deed}(h:dc f n=ZG)(q:p<n):∀l∈gU (f p),(10:UInt8) ∉ l:=by
 have hn:=fN h;have h1:=fL hn.2.2 p q;simp only[be,zA,kindOk,z8] at h1;obtain⟨⟨t,_⟩,h2⟩:=h1;have c:=rE t;intro l b;unfold gU at b;split at b;{rw[nL.1 b];exact cQ (cQ (cQ (by decide) c) (by decide)) (pz _)};{rename_i r;split at b;{rw[nL.1 b];exact cQ (by decide) c};{rename_i u;rw[nD r,nD u] at h2;split at h2;{simp only[cG,zA,z8] at h2;obtain⟨⟨⟨⟨a1,a2⟩,j⟩,a4⟩,m⟩:=h2;obtain⟨o,b2,b3⟩:=bO j;rcases A9.1 b with b|b;{rw[b];exact cQ (cQ (cQ (cQ (cQ (by decide) c) (by decide)) (lL _)) (by decide)) (pz _)};{rcases p8.1 b with b|b;{rcases p8.1 b with b|b;{obtain⟨k,i,rfl⟩:=PC.1 b;have ok:=gL o (NH.1 i);refine cQ (by decide) ?_;exact Aa (s:=((f p).G k).s.data.toList) (by simpa using ok)};{obtain⟨k,i,rfl⟩:=PC.1 b;have lk:=fM m k (NH.1 i);unfold ew at lk;rw[zA] at lk;have g:=rE lk.1;unfold dG;split;{exact cQ (cQ (cQ (by decide) g) (by decide)) (lL _)};{refine cQ (cQ (cQ (by decide) g) (by decide)) ?_;split<;>decide}}};{rw[nL.1 b];decide}}};{cases h2}}}
theorem vK{f:Nat->Deed}(h:dc f n=ZG):∀l∈tK f n,(10:UInt8) ∉ l:=by
 intro l b;rcases A9.1 b with b|b;{rw[b];exact cQ (by decide) (lL _)};{obtain⟨p,c,b⟩:=NW.1 b;exact vJ h (NH.1 c) l b}
theorem rF{f:Nat->Deed}(h:dc f n=ZG):bC [] (tL (aL (aN f n n))) ((List.range n).map λp=>norm (f p)):=by have e:fE (tK f n)=aN f n n:=rD f n n;rw[<-e,py (vK h),Am];exact Al h
structure FtR (k:Nat)(d:Deed):Prop where
 a:d.f<=k
 l:d.b<=k
 n:d.e.size<=300000
 t:d.h.size<=300000
 x:∀j,j<d.f->(d.G j).s.size<=300000
 y:∀j,j<d.b->(d.m j).e.size<=300000
def SzD (k:Nat)(D:List Deed):Prop:=D.length<=k/\∀d∈D,FtR k d
theorem FtR.up{k:Nat}{d:Deed}(h:FtR k d)(b:k<=m):FtR m d:=⟨p9 h.a b,p9 h.l b,h.n,h.t,h.x,h.y⟩
theorem SzD.up{k:Nat}{D:List Deed}(h:SzD k D)(b:k<=m):SzD m D:=⟨p9 h.1 b,λd c=>(h.2 d c).up b⟩
theorem SzD.nil (k:Nat):SzD k []:=⟨E4 _,λd b=>by cases b⟩
theorem SzD.new{k:Nat}{D:List Deed}(h:SzD k D)(name:ByteArray)(kind code:Int)(text:ByteArray)(hn:name.size<=300000)(f:text.size<=300000):SzD (k+1) (D++[aQ name kind code text]):=by
 refine⟨by rw[cM];exact TZ h.1,λd b=>?_⟩;rcases p8.1 b with b|b;{exact(h.2 d b).up (F3 _)};{rw[nL.1 b];exact⟨E4 _,E4 _,hn,f,λj c=>absurd c (NV _),λj c=>absurd c (NV _)⟩}
theorem SzD.doA{k:Nat}{D:List Deed}{d:Deed}(h:SzD k (D++[d]))(x:Ins)(g:x.s.size<=300000):SzD (k+1) (D++[d.doA x]):=by
 have b:=h.2 d (by simp);refine⟨by have:=h.1;simp at this ⊢;omega,λe c=>?_⟩;rcases p8.1 c with c|c;{exact(h.2 e (by simp[c])).up (F3 _)};{rw[nL.1 c];refine⟨TZ b.a,Nat.le_succ_of_le b.l,b.n,b.t,λj f=>?_,b.y⟩;show(if j=d.f then x else d.G j).s.size<=300000;split;{exact g};{have hj':j<d.f+1:=f;exact b.x j (by omega)}}
theorem SzD.lkA{k:Nat}{D:List Deed}{d:Deed}(h:SzD k (D++[d]))(x:Link)(g:x.e.size<=300000):SzD (k+1) (D++[d.lkA x]):=by
 have b:=h.2 d (by simp);refine⟨by have:=h.1;simp at this ⊢;omega,λe c=>?_⟩;rcases p8.1 c with c|c;{exact(h.2 e (by simp[c])).up (F3 _)};{rw[nL.1 c];refine⟨Nat.le_succ_of_le b.a,TZ b.l,b.n,b.t,b.x,λj f=>?_⟩;show(if j=d.b then x else d.m j).e.size<=300000;split;{exact g};{have hj':j<d.b+1:=f;exact b.y j (by omega)}}
theorem nT{f:Nat->Deed}(h:cL f n=S)(b:S≠[]):dc f n=ZG/\aN f n n=S:=by
 unfold cL at h;split at h;{rename_i h1;split at h;{exact⟨h1,h⟩};{exact absurd h.symm b}};{exact absurd h.symm b}
def nrm (f:Nat->Deed)(n:Nat):List Deed:=(List.range n).map λp=>norm (f p)
def kG (S:List UInt8)(r:Option (List Deed)):Prop :=
 (∀D,r=T D->∃f n,cL f n=S/\S≠[]/\D=nrm f n)/\∀f n,cL f n=S->S≠[]->r=T (nrm f n)
theorem Dk{r b:Option (List Deed)}(h:kG S r)(c:kG S b):r=b:=by
 cases r with
 |some D =>obtain⟨f,n,h1,h2,h3⟩:=h.1 D rfl;rw[c.2 _ _ h1 h2,h3]
 |none =>
  cases b with
  |none=>rfl
  |some D =>obtain⟨f,n,h1,h2,h3⟩:=c.1 D rfl;have:=h.2 _ _ h1 h2;cases this
theorem iV (h:∀f n,cL f n=S->S=[]):kG S Y :=
 ⟨λD e=>(by cases e),λf n h1 h2=>absurd (h f n h1) h2⟩
theorem rG{f:Nat->Deed}(h:cL f n=S)(b:S≠[])(c:∀E,bC [] (tL (aL S)) E->nrm f n=E):kG S (T (nrm f n)):=by refine⟨λD e=>⟨f,n,h,b,(BO e).symm⟩,λf' n' h1 h2=>?_⟩;obtain⟨ok,e⟩:=nT h1 h2;have g:=rF ok;rw[e] at g;rw[c _ g];rfl
theorem mM{f:Nat->Deed}(h:cL f n=S)(b:S≠[]):bC [] (tL (aL S)) (nrm f n):=by obtain⟨ok,e⟩:=nT h b;have g:=rF ok;rw[e] at g;exact g
theorem lM{f:Nat->Deed}(h:cL f n=S):S.length<=300000:=by
 unfold cL at h;split at h;{split at h;{rw[<-h];assumption};{rw[<-h];simp}};{rw[<-h];simp}
theorem nF (f:Nat->Deed)(n:Nat):(nrm f n).length=n:=by simp[nrm]
theorem An (f:Nat->Deed)(hi:i<n):dF (nrm f n) i=norm (f i):=by unfold dF nrm;simp[hi]
theorem tM{w:M}{a:Option Addr}{f:Nat->Deed}(h:SlDeed w a n (dF (nrm f n))):SlDeed w a n f:=by
 rcases h with h|⟨b,off,e,r,u⟩
 {exact .inl h}
 ·refine .inr ⟨b,off,e,r,λi hi=>?_⟩;have h1:=u i hi;rw[An f hi] at h1;obtain⟨s,o,x,p,⟨a0,c0,q,r0⟩,⟨a1,c1,t,r1⟩⟩:=h1;refine⟨s,o,x,p,⟨a0,c0,q,?_⟩,⟨a1,c1,t,?_⟩⟩
  ·rcases r0 with r0|⟨b0,o0,g,m,l⟩
   {exact .inl r0};{refine .inr ⟨b0,o0,g,m,λj c=>?_⟩;have:=l j c;rw[show(norm (f i)).G j=(f i).G j from p7 c] at this;exact this}
  ·rcases r1 with r1|⟨b0,o0,g,m,l⟩
   {exact .inl r1};{refine .inr ⟨b0,o0,g,m,λj c=>?_⟩;have:=l j c;rw[show(norm (f i)).m j=(f i).m j from p7 c] at this;exact this}
theorem qA{f:Nat->Deed}{k:Nat}(h:SzD k (nrm f n))(hk:k<=400000):∀i,i<n->dk (f i)/\fD (f i):=by
 intro i hi;have h1:=h.2 (norm (f i)) (by unfold nrm;exact PC.2 ⟨i,NH.2 hi,rfl⟩);have ha:(f i).f<=k:=h1.a;have hl:(f i).b<=k:=h1.l;have hn:(f i).e.size<=300000:=h1.n;have ht:(f i).h.size<=300000:=h1.t;refine⟨⟨by omega,by omega⟩,by unfold maxLen;omega,by unfold maxLen;omega,⟨by omega,λj b=>?_⟩,by omega,λj b=>?_⟩;{have:=h1.x j b;rw[show(norm (f i)).G j=(f i).G j from p7 b] at this;unfold maxLen;omega};{have:=h1.y j b;rw[show(norm (f i)).m j=(f i).m j from p7 b] at this;unfold maxLen;omega}
theorem Ao{D:List Deed}{k:Nat}(h:SzD k D)(hk:k<=400000):∀i,i<D.length->dk (dF D i)/\fD (dF D i):=by
 intro i hi;have e:dF D i=D[i]:=by unfold dF;simp[hi]
 have h1:=h.2 D[i] (gz hi);rw[e];have h2:=h1.a;have h3:=h1.l;have h4:=h1.n;have h5:=h1.t;refine⟨⟨by omega,by omega⟩,by unfold maxLen;omega,by unfold maxLen;omega,⟨by omega,λj b=>?_⟩,by omega,λj b=>?_⟩;{have:=h1.x j b;unfold maxLen;omega};{have:=h1.y j b;unfold maxLen;omega}
def yu (o:Option I3):ZC:=match o with
 |some i=>.tuple #[.agg #[J I i.1,U ⟨i.2.1.toArray⟩,J I i.2.2],ZD ZG]
 |none=>.tuple #[.agg #[J I 0,U ⟨#[]⟩,J I 0],ZD ZA]
theorem yv (k:Int):(word k).length<=6:=by unfold word;split<;>decide
theorem yw (s:ByteArray)(w:M)(hs:s.size<=16777216):Calls Pg 63 #[U s] w λe n=>e=ZF (yu (bA s.data.toList))/\Below w.heap.size w n:=by
 have HL:Hid (s.data.toList.length=s.size):=by show _=_;simp
 have C0:=ae (CI.new w (J I 0) (U ⟨#[]⟩) (J I 0));have B0:=ae ((q9 w).alloc ly (N #[J I 0,U ⟨#[]⟩,J I 0] 90));go_enter func63,ntmps63;go_wp2;go_loopw [4] (λi wr=>∃k:Nat,1<=k/\k<=16/\i=J I k/\Hid (∀j:Int,1<=j->j<k->∀t m,¬ ey s.data.toList j t m)/\Hid (CI wr w.heap.size (J I 0) (U ⟨#[]⟩) (J I 0))/\Hid (Below w.heap.size w wr)) (λi _=>16 - (intOf i).toNat);case atStart=>exact⟨1,by omega,by omega,rfl,λj h1 h2=>by omega,C0.out,B0.out⟩
 case round =>
  clear C0 B0;obtain⟨k,hk1,hk2,rfl,F,H,HB⟩:=hrel;have L:w.heap.size<wr.heap.size:=H.out.lt;by_cases hlt:k<16
  ·have i15:(k:Int)<=15:=by omega
   have ZI:=λV=>xP (k:Int) V;have ZO:Hid (eA k s.data.toList=if kind k=1/\(⟨(word k).toArray⟩:ByteArray).size<s.size then bc (bR (s.data.toList.drop ((⟨(word k).toArray⟩:ByteArray).size+1))) else []):=by show _=_;unfold eA;rw[HL.out];rfl
   have K:Hid (eQ k s.data.toList=if ¬ kind k=1/\0<kind k/\(⟨(word k).toArray⟩:ByteArray).size<s.size then bP 0 ((s.data.toList.drop ((⟨(word k).toArray⟩:ByteArray).size+1)).take 6) else 0):=by show _=_;unfold eQ;rw[HL.out];rfl
   have la:(⟨(word k).toArray⟩:ByteArray).size<=6:=yv k;have dg:=wW k;generalize (⟨(word (k:Int)).toArray⟩:ByteArray)=wd at ZI ZO K la;generalize kind (k:Int)=kd at ZI ZO K dg;have f:=ae (λh1 h2=>CG (s:=s.data.toList) (k:=k) h1 h2);have D:=ae (λh=>FU (s:=s.data.toList) (k:=k) h);have bt:=zS k s.data.toList;rw[HL.out] at bt;generalize eA (k:Int) s.data.toList=o at ZO f D bt;generalize eQ (k:Int) s.data.toList=q at K f D;have O:=ae (CI.new wr (J I (k:Int)) (U ⟨#[]⟩) (J I 0));have ZL:=ae (HB.out.alloc (NK L) (N #[J I (k:Int),U ⟨#[]⟩,J I 0] 90));have aq:(¬ 0<kd∨(0<kd/\¬ (wd.size:Int)<s.size))∨(kd=1/\(wd.size:Int)<s.size)∨(0<kd/\(kd == 1)=ZA/\(wd.size:Int)<s.size):=by
    by_cases h1:0<kd;{by_cases h2:(wd.size:Int)<s.size;{by_cases h3:kd=1;{exact .inr (.inl ⟨h3,h2⟩)};{exact .inr (.inr ⟨h1,by simpa using h3,h2⟩)}};{exact .inl (.inr ⟨h1,h2⟩)}};{exact .inl (.inl h1)}
   rcases aq with hc|⟨rfl,hc⟩|⟨fd,S,hc3⟩
   ·have ZK:o=[]:=by rw[ZO.out,nD (by omega)]
    have W:q=0:=by rw[K.out,nD (by omega)]
    subst ZK W;rcases hc with hc|⟨hc,hd⟩
    all_goals
     go_wp2_with (go_at_call 99;go_fit (ZI _);rintro e n ⟨rfl,C⟩;rw[C];clear C);have z:=O;have G:=ae (H.out.aa ((q9 wr).alloc ly (N #[J I (k:Int),U ⟨#[]⟩,J I 0] 90)) L);have ZP:=ZL;clear O ZL;generalize wr.alloc (N #[J I (k:Int),U ⟨#[]⟩,J I 0] 90)=W4 at z G ZP ⊢;have ZQ:wr.heap.size<W4.heap.size:=z.out.lt;have R:∀V,Calls Pg 107 #[.agg #[J I (k:Int),U ⟨([]:List UInt8).toArray⟩,J I (0:Int)]] V λe n=>e=ZF (ZD (aG (k:Int) ([]:List UInt8).length (0:Int)))/\Below V.heap.size V n:=λV=>iG (k:Int) ⟨([]:List UInt8).toArray⟩ (0:Int) V (by unfold maxLen;show([]:List UInt8).length<=_;simp);have r:aG (k:Int) ([]:List UInt8).length (0:Int)=ZG->∀V,Calls Pg 53 #[.agg #[J I (k:Int),U ⟨([]:List UInt8).toArray⟩,J I (0:Int)]] V λe n=>e=ZF (U ⟨(aR (k:Int) ([]:List UInt8) (0:Int)).toArray⟩)/\Below V.heap.size V n:=λh V=>jm (k:Int) ⟨([]:List UInt8).toArray⟩ (0:Int) V h;have b:Hid (¬ (aG (k:Int) ([]:List UInt8).length (0:Int)=ZG/\aR (k:Int) ([]:List UInt8) (0:Int)=s.data.toList)->∀j:Int,1<=j->j<((k+1:Nat):Int)->∀t m,¬ ey s.data.toList j t m):=λh j h1 h2 t m=>by
      by_cases e:j=k
      ·rw[e];exact D.out h t m
      ·exact F.out j h1 (by omega) t m
     clear D F;refine(R _).mono ?_;rintro e ZN ⟨rfl,g⟩;have E:=ae (ZP.out.trans (g.mono (by omega)));have A:=ae (G.out.aa g (by omega));have u:=ae (z.out.aa g ZQ);have z2:w.heap.size<ZN.heap.size:=A.out.lt;have P:wr.heap.size<ZN.heap.size:=u.out.lt;clear g R z G ZP;cases hok:aG (k:Int) ([]:List UInt8).length (0:Int) with
     |false =>have x:=ae (b.out (λh=>by rw[hok] at h;exact absurd h.1 (by simp)));clear b f r;go_wp2;exact⟨⟨k+1,by omega,by omega,by go_num,x.out,A.out,E.out⟩,by simp[intOf];omega⟩
     |true =>
      have r:=r hok;have f:=ae (f.out hok);have b:=ae (λ(h:¬ aR (k:Int) ([]:List UInt8) (0:Int)=s.data.toList)=>b.out (λX=>h X.2));generalize aR (k:Int) ([]:List UInt8) (0:Int)=ln at r f b;have c0:=u.out.c0;have c1:=u.out.c1;have c2:=u.out.c2;go_wp2_with fail;refine(r _).mono ?_;rintro e w3 ⟨rfl,l⟩;clear c0 c1 c2;have ZM:=ae (E.out.trans (l.mono (by omega)));have c:=ae (A.out.aa l z2);have I3:=ae (u.out.aa l P);have z3:w.heap.size<w3.heap.size:=c.out.lt;clear l r E A u;cases heq:(ln == s.toList) with
      |false =>have x:=ae (b.out (λh=>by rw[h,GC] at heq;simp at heq));go_wp2;exact⟨⟨k+1,by omega,by omega,by go_num,x.out,c.out,ZM.out⟩,by simp[intOf];omega⟩
      |true =>
       have x:=ae (f.out (by have:=eq_of_beq heq;rw[GC] at this;exact this));have c0:=I3.out.c0;have c1:=I3.out.c1;have c2:=I3.out.c2;have d0:=c.out.c0;have d1:=c.out.c1;have d2:=c.out.c2;have f0:=c.out.fz 0;have f1:=c.out.fz 1;have f2:=c.out.fz 2;go_wp2;try simp only[Exit.inBlock,Exit.then]
       refine bp (dX rfl _ _ w.heap.size _ _ _ rfl (c.out.all _ _ _)) rfl ?_;exact⟨by rw[x.out];rfl,((ZM.out.setCell (p:=(Q w.heap.size 0 Y)) ly _).setCell (p:=(Q w.heap.size 1 Y)) ly _).setCell (p:=(Q w.heap.size 2 Y)) ly _⟩
   ·have ZK:o=bc (bR (s.data.toList.drop (wd.size+1))):=by rw[ZO.out,p7 ⟨rfl,by omega⟩]
    have W:q=0:=by rw[K.out,nD (λh=>h.1 rfl)]
    subst W;have q1:(0:Int)<=(wd.size:Int)+1:=by omega
    have q2:(wd.size:Int)+1<=s.size:=by omega
    have q3:(s.size:Int)<=9223372036854775807:=by omega
    have UQ:∀V,Calls Pg 61 #[U (s.extract (wd.size+1) s.size)] V λe n=>e=ZF (U ⟨o.toArray⟩)/\Below V.heap.size V n:=λV=>by have h:=jf (s.extract (wd.size+1) s.size) V (by rw[TO];omega);rw[show(s.extract (wd.size+1) s.size).data.toList=s.data.toList.drop (wd.size+1) by rw[nE],<-ZK] at h;exact h
    clear ZK;have RX:=ae (H.out.aa ((q9 wr).alloc ly (N #[J I (k:Int),U ⟨#[]⟩,J I 0] 90)) L);have zX:wr.heap.size<(wr.alloc (N #[J I (k:Int),U ⟨#[]⟩,J I 0] 90)).heap.size:=O.out.lt
    go_wp2_with (first
     |(go_at_call 99;go_fit (ZI _);rintro e n ⟨rfl,C⟩;rw[C];clear C)
     |(go_at_call 61;go_fit (UQ _);rintro e w1 ⟨rfl,y⟩;have B:=ae (O.out.aa y zX);have R1:=ae (RX.out.aa y (by omega));have ZJ:=ae (ZL.out.trans (y.mono (by omega)));have c0:=B.out.c0;have c1:=B.out.c1;have c2:=B.out.c2;have f1:=B.out.fz 1;clear y))
    have z:=ae (B.out.set1 (U ⟨o.toArray⟩));have G:=ae (R1.out.other (Q wr.heap.size 1 Y) (by show wr.heap.size≠w.heap.size;omega) (U ⟨o.toArray⟩));have ZP:=ae (ZJ.out.setCell (p:=(Q wr.heap.size 1 Y)) (NK L) (U ⟨o.toArray⟩));clear c0 c1 c2 f1 B R1 ZJ O ZL RX UQ;generalize w1.setCell (Q wr.heap.size 1 Y) (U ⟨o.toArray⟩)=W4 at z G ZP ⊢;have ZQ:wr.heap.size<W4.heap.size:=z.out.lt;have R:∀V,Calls Pg 107 #[.agg #[J I (k:Int),U ⟨o.toArray⟩,J I (0:Int)]] V λe n=>e=ZF (ZD (aG (k:Int) o.length (0:Int)))/\Below V.heap.size V n:=λV=>iG (k:Int) ⟨o.toArray⟩ (0:Int) V (by unfold maxLen;show o.length<=_;omega);have r:aG (k:Int) o.length (0:Int)=ZG->∀V,Calls Pg 53 #[.agg #[J I (k:Int),U ⟨o.toArray⟩,J I (0:Int)]] V λe n=>e=ZF (U ⟨(aR (k:Int) o (0:Int)).toArray⟩)/\Below V.heap.size V n:=λh V=>jm (k:Int) ⟨o.toArray⟩ (0:Int) V h;have b:Hid (¬ (aG (k:Int) o.length (0:Int)=ZG/\aR (k:Int) o (0:Int)=s.data.toList)->∀j:Int,1<=j->j<((k+1:Nat):Int)->∀t m,¬ ey s.data.toList j t m):=λh j h1 h2 t m=>by
     by_cases e:j=k;{rw[e];exact D.out h t m};{exact F.out j h1 (by omega) t m}
    clear D F;refine(R _).mono ?_;rintro e ZN ⟨rfl,g⟩;have E:=ae (ZP.out.trans (g.mono (by omega)));have A:=ae (G.out.aa g (by omega));have u:=ae (z.out.aa g ZQ);have z2:w.heap.size<ZN.heap.size:=A.out.lt;have P:wr.heap.size<ZN.heap.size:=u.out.lt;clear g R z G ZP;cases hok:aG (k:Int) o.length (0:Int) with
    |false =>have x:=ae (b.out (λh=>by rw[hok] at h;exact absurd h.1 (by simp)));clear b f r;go_wp2;exact⟨⟨k+1,by omega,by omega,by go_num,x.out,A.out,E.out⟩,by simp[intOf];omega⟩
    |true =>
     have r:=r hok;have f:=ae (f.out hok);have b:=ae (λ(h:¬ aR (k:Int) o (0:Int)=s.data.toList)=>b.out (λX=>h X.2));generalize aR (k:Int) o (0:Int)=ln at r f b;have c0:=u.out.c0;have c1:=u.out.c1;have c2:=u.out.c2;go_wp2_with fail;refine(r _).mono ?_;rintro e w3 ⟨rfl,l⟩;clear c0 c1 c2;have ZM:=ae (E.out.trans (l.mono (by omega)));have c:=ae (A.out.aa l z2);have I3:=ae (u.out.aa l P);have z3:w.heap.size<w3.heap.size:=c.out.lt;clear l r E A u;cases heq:(ln == s.toList) with
     |false =>have x:=ae (b.out (λh=>by rw[h,GC] at heq;simp at heq));go_wp2;exact⟨⟨k+1,by omega,by omega,by go_num,x.out,c.out,ZM.out⟩,by simp[intOf];omega⟩
     |true =>
      have x:=ae (f.out (by have:=eq_of_beq heq;rw[GC] at this;exact this));have c0:=I3.out.c0;have c1:=I3.out.c1;have c2:=I3.out.c2;have d0:=c.out.c0;have d1:=c.out.c1;have d2:=c.out.c2;have f0:=c.out.fz 0;have f1:=c.out.fz 1;have f2:=c.out.fz 2;go_wp2;try simp only[Exit.inBlock,Exit.then]
      refine bp (dX rfl _ _ w.heap.size _ _ _ rfl (c.out.all _ _ _)) rfl ?_;exact⟨by rw[x.out];rfl,((ZM.out.setCell (p:=(Q w.heap.size 0 Y)) ly _).setCell (p:=(Q w.heap.size 1 Y)) ly _).setCell (p:=(Q w.heap.size 2 Y)) ly _⟩
   ·have ZK:o=[]:=by rw[ZO.out,nD (λh=>by rw[h.1] at S;simp at S)]
    have W:q=bP 0 ((s.data.toList.drop (wd.size+1)).take 6):=by rw[K.out,p7 ⟨λh=>by rw[h] at S;simp at S,fd,by omega⟩]
    subst ZK;have q1:(0:Int)<=(wd.size:Int)+1:=by omega
    have q2:(wd.size:Int)+1<=s.size:=by omega
    have q3:(s.size:Int)<=9223372036854775807:=by omega
    have UQ:∀V,Calls Pg 62 #[U (s.extract (wd.size+1) s.size)] V λe n=>e=ZF (J I q)/\Below V.heap.size V n:=λV=>by have h:=jH (s.extract (wd.size+1) s.size) V (by rw[TO];omega);rw[show(s.extract (wd.size+1) s.size).data.toList=s.data.toList.drop (wd.size+1) by rw[nE],<-W] at h;refine h.mono ?_;rintro e n ⟨rfl,rfl⟩;exact⟨rfl,eL _ _⟩
    clear W;have RX:=ae (H.out.aa ((q9 wr).alloc ly (N #[J I (k:Int),U ⟨#[]⟩,J I 0] 90)) L);have zX:wr.heap.size<(wr.alloc (N #[J I (k:Int),U ⟨#[]⟩,J I 0] 90)).heap.size:=O.out.lt
    go_wp2_with (first
     |(go_at_call 99;go_fit (ZI _);rintro e n ⟨rfl,C⟩;rw[C];clear C)
     |(go_at_call 62;go_fit (UQ _);rintro e w1 ⟨rfl,y⟩;have B:=ae (O.out.aa y zX);have R1:=ae (RX.out.aa y (by omega));have ZJ:=ae (ZL.out.trans (y.mono (by omega)));have c0:=B.out.c0;have c1:=B.out.c1;have c2:=B.out.c2;have f1:=B.out.fz 2;clear y))
    have z:=ae (B.out.set2 (J I q));have G:=ae (R1.out.other (Q wr.heap.size 2 Y) (by show wr.heap.size≠w.heap.size;omega) (J I q));have ZP:=ae (ZJ.out.setCell (p:=(Q wr.heap.size 2 Y)) (NK L) (J I q));clear c0 c1 c2 f1 B R1 ZJ O ZL RX UQ;generalize w1.setCell (Q wr.heap.size 2 Y) (J I q)=W4 at z G ZP ⊢;have ZQ:wr.heap.size<W4.heap.size:=z.out.lt;have R:∀V,Calls Pg 107 #[.agg #[J I (k:Int),U ⟨([]:List UInt8).toArray⟩,J I q]] V λe n=>e=ZF (ZD (aG (k:Int) ([]:List UInt8).length q))/\Below V.heap.size V n:=λV=>iG (k:Int) ⟨([]:List UInt8).toArray⟩ q V (by unfold maxLen;show([]:List UInt8).length<=_;simp);have r:aG (k:Int) ([]:List UInt8).length q=ZG->∀V,Calls Pg 53 #[.agg #[J I (k:Int),U ⟨([]:List UInt8).toArray⟩,J I q]] V λe n=>e=ZF (U ⟨(aR (k:Int) ([]:List UInt8) q).toArray⟩)/\Below V.heap.size V n:=λh V=>jm (k:Int) ⟨([]:List UInt8).toArray⟩ q V h;have b:Hid (¬ (aG (k:Int) ([]:List UInt8).length q=ZG/\aR (k:Int) ([]:List UInt8) q=s.data.toList)->∀j:Int,1<=j->j<((k+1:Nat):Int)->∀t m,¬ ey s.data.toList j t m):=λh j h1 h2 t m=>by
     by_cases e:j=k;{rw[e];exact D.out h t m};{exact F.out j h1 (by omega) t m}
    clear D F;refine(R _).mono ?_;rintro e ZN ⟨rfl,g⟩;have E:=ae (ZP.out.trans (g.mono (by omega)));have A:=ae (G.out.aa g (by omega));have u:=ae (z.out.aa g ZQ);have z2:w.heap.size<ZN.heap.size:=A.out.lt;have P:wr.heap.size<ZN.heap.size:=u.out.lt;clear g R z G ZP;cases hok:aG (k:Int) ([]:List UInt8).length q with
    |false =>have x:=ae (b.out (λh=>by rw[hok] at h;exact absurd h.1 (by simp)));clear b f r;go_wp2;exact⟨⟨k+1,by omega,by omega,by go_num,x.out,A.out,E.out⟩,by simp[intOf];omega⟩
    |true =>
     have r:=r hok;have f:=ae (f.out hok);have b:=ae (λ(h:¬ aR (k:Int) ([]:List UInt8) q=s.data.toList)=>b.out (λX=>h X.2));generalize aR (k:Int) ([]:List UInt8) q=ln at r f b;have c0:=u.out.c0;have c1:=u.out.c1;have c2:=u.out.c2;go_wp2_with fail;refine(r _).mono ?_;rintro e w3 ⟨rfl,l⟩;clear c0 c1 c2;have ZM:=ae (E.out.trans (l.mono (by omega)));have c:=ae (A.out.aa l z2);have I3:=ae (u.out.aa l P);have z3:w.heap.size<w3.heap.size:=c.out.lt;clear l r E A u;cases heq:(ln == s.toList) with
     |false =>have x:=ae (b.out (λh=>by rw[h,GC] at heq;simp at heq));go_wp2;exact⟨⟨k+1,by omega,by omega,by go_num,x.out,c.out,ZM.out⟩,by simp[intOf];omega⟩
     |true =>
      have x:=ae (f.out (by have:=eq_of_beq heq;rw[GC] at this;exact this));have c0:=I3.out.c0;have c1:=I3.out.c1;have c2:=I3.out.c2;have d0:=c.out.c0;have d1:=c.out.c1;have d2:=c.out.c2;have f0:=c.out.fz 0;have f1:=c.out.fz 1;have f2:=c.out.fz 2;go_wp2;try simp only[Exit.inBlock,Exit.then]
      refine bp (dX rfl _ _ w.heap.size _ _ _ rfl (c.out.all _ _ _)) rfl ?_;exact⟨by rw[x.out];rfl,((ZM.out.setCell (p:=(Q w.heap.size 0 Y)) ly _).setCell (p:=(Q w.heap.size 1 Y)) ly _).setCell (p:=(Q w.heap.size 2 Y)) ly _⟩
  ·obtain rfl:k=16:=by omega
   have HR:Hid (bA s.data.toList=Y):=CH λj h1 h2=>F.out j h1 (by omega);have c0:=H.out.c0;have c1:=H.out.c1;have c2:=H.out.c2;have f0:=H.out.fz 0;have f1:=H.out.fz 1;have f2:=H.out.fz 2;go_wp2;try simp only[Exit.inBlock,Exit.then]
   refine bp (dX rfl _ _ w.heap.size _ _ _ rfl (H.out.all _ _ _)) rfl ?_;exact⟨by rw[HR.out];rfl,((HB.out.setCell (p:=(Q w.heap.size 0 Y)) ly _).setCell (p:=(Q w.heap.size 1 Y)) ly _).setCell (p:=(Q w.heap.size 2 Y)) ly _⟩
