import Derived.Test.YtpmnbjkjpnclaaaGreatDoorRC
import Derived.Test.YtpmnbjkjpnclaaaGreatDoorRG
set_option maxRecDepth 100000
set_option maxHeartbeats 8000000
set_option linter.unusedSimpArgs false
open Go renaming Addr.mk->Q,Value.slice->Z,Value.string->Y,Value.int->J,Value.bool->ZD,Obj.cells->N,IntKind.i64->I,World->M,Value->ZC,Ending.returned->ZF,Proofs.Tryz.prog->Pg
open Option renaming none->U,some->T
open Bool renaming false->ZA,true->ZG
namespace Go.Proofs.YtpmnbjkjpnclaaaGreatDoor.Vp
open Tryz RowKit
variable {n i f p m:Nat}{S l:List UInt8}{s:ByteArray}
theorem iT (c:UInt8)(w:M):Calls Pg 250 #[J .u8 c.toNat] w λe i=>e=ZF (J I (aT c))/\i=w:=by
 have hc:=c.toNat_lt;have hn:(48<=(c.toNat:Int)/\(c.toNat:Int)<=57/\aT c=(c.toNat:Int) - 48)∨(48<=(c.toNat:Int)/\¬ (c.toNat:Int)<=57/\97<=(c.toNat:Int)/\(c.toNat:Int)<=102/\aT c=(c.toNat:Int) - 87)∨(¬ 48<=(c.toNat:Int)/\¬ 97<=(c.toNat:Int)/\aT c=-1)∨(48<=(c.toNat:Int)/\¬ (c.toNat:Int)<=57/\¬ 97<=(c.toNat:Int)/\aT c=-1)∨(48<=(c.toNat:Int)/\¬ (c.toNat:Int)<=57/\97<=(c.toNat:Int)/\¬ (c.toNat:Int)<=102/\aT c=-1):=by
  unfold aT;split;{omega};{split<;>omega}
 rcases hn with ⟨f,b,h⟩|⟨f,b,g,j,h⟩|⟨f,b,h⟩|⟨f,b,g,h⟩|⟨f,b,g,j,h⟩
 all_goals
  rw[h];clear h;go_enter func250,ntmps250;go_wp2;go_ret;exact⟨by go_num,rfl⟩
theorem take_at{k:Nat}(h:k<s.size):s.data.toList.take (k+1)=s.data.toList.take k++[s[k]]:=by rw[QO (by simpa using h)];rfl
theorem Bf (l:List UInt8)(c:UInt8):bQ 0 (l++[c])=bQ 0 l*10+c.toNat - 48:=by rw[oQ];rfl
theorem GU:∀(l:List UInt8),l.length<=6->-1000000000<=bQ 0 l/\bQ 0 l<=1000000000:=by
 intro l h;match l,h with
 |[],_=>decide
 |[a],_=>simp only[bQ];have:=a.toNat_lt;omega
 |[a,b],_=>simp only[bQ];have:=a.toNat_lt;have:=b.toNat_lt;omega
 |[a,b,c],_=>simp only[bQ];have:=a.toNat_lt;have:=b.toNat_lt;have:=c.toNat_lt;omega
 |[a,b,c,d],_=>simp only[bQ];have:=a.toNat_lt;have:=b.toNat_lt;have:=c.toNat_lt;have:=d.toNat_lt;omega
 |[a,b,c,d,e],_=>simp only[bQ];have:=a.toNat_lt;have:=b.toNat_lt;have:=c.toNat_lt;have:=d.toNat_lt;have:=e.toNat_lt;omega
 |[a,b,c,d,e,f],_=>simp only[bQ];have:=a.toNat_lt;have:=b.toNat_lt;have:=c.toNat_lt;have:=d.toNat_lt;have:=e.toNat_lt;have:=f.toNat_lt;omega
 |a::b::c::d::e::f::g::r,h=>simp at h
theorem jS (s:ByteArray)(w:M)(hs:s.size<=16777216):Calls Pg 202 #[Y s] w λe g=>e=ZF (J I (bQ 0 (s.data.toList.take 6)))/\g=w:=by
 go_enter func202,ntmps202;go_wp2;go_loopw [3,4] (λv i wr=>∃k:Nat,k<=s.size/\k<=6/\i=J I k/\v=J I (bQ 0 (s.data.toList.take k))/\wr=w) (λ_ i _=>s.size - (intOf i).toNat);case atStart=>exact⟨0,by omega,by omega,rfl,rfl,rfl⟩
 case round =>
  obtain⟨k,hk,hk6,rfl,rfl,rfl⟩:=hrel;by_cases c:k<s.size
  ·by_cases h6:k<6
   ·have f:=ae (show bQ 0 (s.data.toList.take (k+1))=bQ 0 (s.data.toList.take k)*10+s[k].toNat - 48 by rw[take_at c,Bf]);have hb:=GU (s.data.toList.take k) (by rw[OD];omega);have hc:=s[k].toNat_lt;have b:(k:Int)<s.size:=by omega
    have i2:(k:Int)<6:=by omega
    generalize bQ 0 (s.data.toList.take k)=x at hb f ⊢;go_wp2;exact⟨⟨k+1,by omega,by omega,by go_num,by rw[f.out],trivial⟩,by simp[intOf];omega⟩
   ·obtain rfl:k=6:=by omega
    have b:(6:Int)<s.size:=by omega
    go_wp2;go_ret;exact⟨rfl,rfl⟩
  ·have h:=ae (show s.data.toList.take 6=s.data.toList.take k by
    rw[IU (by rw[PX,ByteArray.size_data];omega),IU (by rw[PX,ByteArray.size_data];omega)])
   have b:¬ (k:Int)<s.size:=by omega
   go_wp2;go_ret;exact⟨by rw[h.out];rfl,rfl⟩
def rem (l:List UInt8)(i:Nat):List UInt8:=(l.drop i).take (l.length - 1 - i)
theorem oY (h:i+1<l.length):rem l i=l[i]::rem l (i+1):=by unfold rem;rw[QY (by omega),show l.length - 1 - i=(l.length - 1 - (i+1))+1 by omega,List.take_succ_cons]
theorem GV (h:¬ i+1<l.length):rem l i=[]:=by unfold rem;rw[show l.length - 1 - i=0 by omega,List.take_zero]
theorem Bg (l:List UInt8):rem l 1=bS l:=by unfold rem bS;rw[show l.length - 1 - 1=l.length - 2 by omega]
theorem Em{c:UInt8}:∀{r:List UInt8},(∀a b f,r=a::b::f->¬ (c=92/\0<=aT a/\0<=aT b))->be (c::r)=c::be r
 |[],_=>by simp[be]
 |[a],_=>by simp[be]
 |a::b::r,h=>by rw[be,gM (h a b r rfl)]
theorem Bh{k:Nat}(h:¬ k+3<l.length){a b:UInt8}{r:List UInt8}:rem l (k+1)≠a::b::r:=by intro e;have:=wA List.length e;unfold rem at this;rw[OD,LD] at this;simp at this;omega
theorem GY{k:Nat}(h:k+3<l.length):rem l (k+1)=l[k+1]::l[k+2]::rem l (k+3):=by rw[oY (by omega),oY (by omega)]
theorem ixS (s:ByteArray)(x:Int)(i:Nat)(b:x=i)(h:i<s.size)(w:M):(Instr.index 9 (Y s) (J I x)).run Pg w=.ok (J .u8 s.data.toList[i].toNat) w:=by subst b;rw[run_index_string w 9 s I (i:Int) F3];simp[h];rfl
theorem En (w:M)(b g cap:Nat)(l:List UInt8)(h:Bs w b (Z (T (Q g 0 U)) l.length cap) l):(convert 22 9 (Z (T (Q g 0 U)) l.length cap)).run Pg w=.ok (Y ⟨l.toArray⟩) w :=
 PR w 22 9 5 (Q g 0 U) cap l IS L3 F3 (λj c=>h.cell j c)
theorem jn (s:ByteArray)(w:M)(hs:s.size<=16777216):Calls Pg 201 #[Y s] w λe t=>e=ZF (Y ⟨(be (bS s.data.toList)).toArray⟩)/\Below w.heap.size w t:=by
  have n:Hid (s.data.toList.length=s.size):=by show _=_;simp
  go_enter func201,ntmps201;go_wp2;go_loopw [3,4] (λv i wr=>∃(k g cap:Nat) (l:List UInt8),1<=k/\k<=s.size+1/\i=J I k/\v=Z (T (Q g 0 U)) l.length cap/\Hid (Bs wr w.heap.size v l)/\Hid (l++be (rem s.data.toList k)=be (bS s.data.toList))/\l.length<=k/\Hid (Below w.heap.size w wr)) (λ_ i _=>s.size+2 - (intOf i).toNat);case atStart=>exact⟨1,w.heap.size,0,[],by omega,by omega,rfl,rfl,Bs.lit w _ [] ly (by unfold maxLen;simp) _ rfl,(by rw[Bg];rfl),by simp,br.alloc ly _⟩
  case round =>
    obtain⟨k,g,cap,l,hk1,hk2,rfl,rfl,C,ZO,hlk,F⟩:=hrel;have H:w.heap.size<=wr.heap.size:=F.size;by_cases hlt:k+1<s.size
    · have i1:(k:Int)+1<s.size:=by omega
      have ZK:k+1<s.data.toList.length:=by rw[n.out];omega
      have O:=ae (oY (l:=s.data.toList) ZK);obtain⟨c,P⟩:∃c,c=s.data.toList[k]:=⟨_,rfl⟩
      rw[<-P] at O;have X0:=λV=>ixS s (k:Int) k rfl (by omega) V;rw[<-P] at X0;clear P;have cl:=c.toNat_lt;obtain⟨a,X⟩:∃a,a=s.data.toList[k+1]?.getD 0:=⟨_,rfl⟩
      obtain⟨b,hb⟩:∃b,b=s.data.toList[k+2]?.getD 0:=⟨_,rfl⟩
      have ZL:=ae (λ(h3:k+3<s.size)=>(show s.data.toList[k+1]'(by rw[n.out];omega)=a by rw[X,gq (by rw[n.out];omega)];rfl));have z:=ae (λ(h3:k+3<s.size)=>(show s.data.toList[k+2]'(by rw[n.out];omega)=b by rw[hb,gq (by rw[n.out];omega)];rfl));have W:=ae (λ(h3:k+3<s.size)=>(show rem s.data.toList (k+1)=a::b::rem s.data.toList (k+3) by rw[GY (by rw[n.out];exact h3),ZL h3,z h3]));have K:Hid (¬ (c=92/\k+3<s.size/\0<=aT a/\0<=aT b)->be (rem s.data.toList k)=c::be (rem s.data.toList (k+1))):=λm=>by
        rw[O.out];refine Em λa' b' r' e h=>m ⟨h.1,?_⟩;by_cases h3:k+3<s.size;{rw[W.out h3] at e;simp only[List.cons.injEq] at e;exact⟨h3,by rw[e.1];exact h.2.1,by rw[e.2.1];exact h.2.2⟩};{exact absurd e (Bh (by rw[n.out];exact h3))}
      clear X hb;by_cases m:c=92/\k+3<s.size/\0<=aT a/\0<=aT b
      · obtain⟨rfl,h3,L,ZN⟩:=m;have i3:(k:Int)+3<s.size:=by omega
        have G:=λV=>ixS s ((k:Int)+1) (k+1) (by omega) (by omega) V;have E:=λV=>ixS s ((k:Int)+2) (k+2) (by omega) (by omega) V;rw[ZL.out h3] at G;rw[z.out h3] at E;have ZJ:=(gF a).2;have ZI:=(gF b).2;have A:Hid (16*aT a+aT b=((byteOf a b).toNat:Int)):=by show _=_;unfold byteOf;rw[NY];omega
        have ZQ:Hid (be (rem s.data.toList k)=byteOf a b::be (rem s.data.toList (k+3))):=by show _=_;rw[O.out,W.out h3,be,p6 ⟨rfl,L,ZN⟩]
        have r:=iT a;have q:=iT b;generalize aT a=x at ZJ L r A ⊢;generalize aT b=y at ZI ZN q A ⊢;go_wp2_with (go_at_call 250;(first|go_fit (r _)|go_fit (q _));rintro e t ⟨rfl,f⟩;rw[f];clear f);have e1:IntKind.i64.wrap ((k:Int)+1)=(k:Int)+1:=by rw[p9];omega
        have e2:IntKind.i64.wrap ((k:Int)+2)=(k:Int)+2:=by rw[p9];omega
        have e3:IntKind.i64.wrap (16*x)=16*x:=by rw[p9];omega
        have e4:IntKind.i64.wrap (16*x+y)=16*x+y:=by rw[p9];omega
        have e5:IntKind.u8.wrap (16*x+y)=16*x+y:=by rw[TG];omega
        have R:=ae (C.aa ((q9 wr).alloc ly (N #[J .u8 (16*x+y)] 5)).drew ly)
        go_region_law (first
          | (refine gv rfl (.tmp 40) (.tmp 54) rfl w.heap.size (Z (T (Q g 0 U)) l.length cap) l (by simp[Act.eval]) R.out (Q wr.heap.size 0 U) 1 [byteOf a b] (by simp[Act.eval]) (gD (by simp[A.out])) (by simp only[eL,nX];omega) (by simp;omega) ?_
             intro v' wZ j o;obtain⟨S,p,rfl,_,_⟩:=j.aq (by simp);have u:=ae j;have B:Hid (Below w.heap.size w wZ):=(F.alloc H _).drew.grown o (by simp;omega) (λx m=>(RV C x m).1)
             clear j o)
          |(go_simp;go_at_call 250;(first|go_fit (r _)|go_fit (q _));rintro e t ⟨rfl,f⟩;rw[f];clear f))
        all_goals
          go_wp2;exact⟨⟨k+3,S,p,l++[byteOf a b],by omega,by omega,by go_num,by simp,(by have:=u.out;simp only[cM,eL,nX,FM] at this;exact this),(by rw[<-ZO.out,ZQ.out,ON];rfl),by simp;omega,B⟩,by simp[intOf];omega⟩
      · have HN:=ae (K m);have hn:(((c.toNat:Int) == 92)=ZA)∨(((c.toNat:Int) == 92)=ZG/\¬ (k:Int)+3<s.size)∨(((c.toNat:Int) == 92)=ZG/\(k:Int)+3<s.size/\¬ 0<=aT a)∨(((c.toNat:Int) == 92)=ZG/\(k:Int)+3<s.size/\0<=aT a/\¬ 0<=aT b):=by
          by_cases ZP:c=92
          · subst ZP;by_cases h3:k+3<s.size
            · have:(k:Int)+3<s.size:=by omega
              by_cases h4:0<=aT a;{exact .inr (.inr (.inr ⟨rfl,this,h4,λh5=>m ⟨rfl,h3,h4,h5⟩⟩))};{exact .inr (.inr (.inl ⟨rfl,this,h4⟩))}
            {exact .inr (.inl ⟨rfl,by omega⟩)}
          {refine .inl ?_;have:¬ (c.toNat:Int)=92:=λe=>ZP (by rw[<-SN];show c.toNat=92;omega);simpa using this}
        clear m K;have G:=λ(h3:(k:Int)+3<s.size) V=>(show(Instr.index 9 (Y s) (J I ((k:Int)+1))).run Pg V=.ok (J .u8 a.toNat) V by have:=ixS s ((k:Int)+1) (k+1) (by omega) (by omega) V;rw[ZL.out (by omega)] at this;exact this)
        have E:=λ(h3:(k:Int)+3<s.size) V=>(show(Instr.index 9 (Y s) (J I ((k:Int)+2))).run Pg V=.ok (J .u8 b.toNat) V by have:=ixS s ((k:Int)+2) (k+2) (by omega) (by omega) V;rw[z.out (by omega)] at this;exact this)
        have r:=iT a;have q:=iT b;generalize aT a=x at r hn ⊢;generalize aT b=y at q hn ⊢;have R:=ae (C.aa ((q9 wr).alloc ly (N #[J .u8 c.toNat] 5)) ly);rcases hn with ZM|⟨ZM,D⟩|⟨ZM,D,p3⟩|⟨ZM,D,p3,p4⟩
        all_goals
          try have G:=G D
          try have E:=E D
          go_wp2_with (first
            |(go_at_call 250;(first|go_fit (r _)|go_fit (q _));rintro e t ⟨rfl,f⟩;rw[f];clear f)
            |(at_builtin;refine lm rfl (.tmp 58) (.tmp 62) rfl w.heap.size _ l rfl R (Q wr.heap.size 0 U) 1 [c] rfl (gD (by simp)) (by simp only[eL,nX];omega) (by simp;omega) ?_))
          intro v' t j o;obtain⟨S,p,rfl,_,_⟩:=j.aq (by simp);have u:=ae j;have B:Hid (Below w.heap.size w t):=(F.alloc H _).grown o (by simp;omega) (λx m=>(RV C x m).1);clear j o;go_wp2;exact⟨⟨k+1,S,p,l++[c],by omega,by omega,by go_num,rfl,u,(by rw[<-ZO.out,HN.out,ON];rfl),by simp;omega,B⟩,by simp[intOf];omega⟩
    · have i1:¬ (k:Int)+1<s.size:=by omega
      have ZQ:Hid (l=be (bS s.data.toList)):=by show _=_;rw[<-ZO.out,GV (by rw[n.out];omega)];simp[be]
      have hcv:=En wr _ g cap l C.out;go_wp2;go_ret;exact⟨by rw[<-ZQ.out];rfl,F⟩
theorem Bi (w:M)(e:TypeId)(size:Nat):(w.alloc (N #[] e)).ownsRow w.heap.size e size (Z (T (Q w.heap.size 0 U)) 0 0) 0 [] :=
 ⟨by simp,.inr ⟨w.heap.size,0,#[],rfl,n6 _,nL w _,n6 _,by unfold maxLen;omega,by simp,by simp⟩⟩
theorem oZ:(Pg.info? 9).map (λi=>(i.zero,i.size,i.bytes))=T (T (Y ⟨#[]⟩),1,16):=by kernel_rfl
def cK (L:List (List UInt8)):List ZC:=L.map λl=>Y ⟨l.toArray⟩
theorem kl (L:List (List UInt8))(l:List UInt8):cK (L++[l])=cK L++[Y ⟨l.toArray⟩]:=by simp[cK]
theorem qX (s:ByteArray)(f k:Nat):s.extract f k=⟨((s.data.toList.drop f).take (k - f)).toArray⟩:=by refine N5 (QS ?_);simp[PH,P6,PC]
theorem nR (s:ByteArray)(f:Nat):s.extract f s.size=⟨(s.data.toList.drop f).toArray⟩:=by rw[qX s f s.size,IU (by simp)]
theorem Ja{k:Nat}(hf:f<=k)(c:k<S.length)(b:S[k]=10):S.drop f=(S.drop f).take (k - f)++10::S.drop (k+1):=by have h1:=(PI (k - f) (S.drop f)).symm;rw[List.drop_drop,show f+(k - f)=k by omega,QY c,b] at h1;exact h1
theorem Ha{k:Nat}(hf:f<=k)(hk:k<S.length)(b:S[k]≠10)(hn:(10:UInt8) ∉ (S.drop f).take (k - f)):(10:UInt8) ∉ (S.drop f).take (k+1 - f):=by
 have c:k - f<(S.drop f).length:=by rw[LD];omega
 rw[show k+1 - f=(k - f)+1 by omega,QO c];intro h;rcases p8.1 h with h|h;{exact hn h};{simp only[List.getElem_drop,nD] at h;simp only[show f+(k - f)=k by omega] at h;exact b h.symm}
theorem kO{e:TypeId}{z:ZC}{a b:Nat}(h:(Pg.info? e).map (λi=>(i.zero,i.size,i.bytes))=T (T z,a,b)):∃i,Pg.info? e=T i/\i.zero=T z/\i.size=a/\i.bytes=b:=by obtain⟨i,hi,hz⟩:=OB.1 h;simp only[LK] at hz;exact⟨i,hi,hz⟩
theorem Bj (s:ByteArray)(w:M)(hs:s.size<=16777216):Calls Pg 199 #[Y s] w λe O=>∃g cap,e=ZF (Z (T (Q g 0 U)) (aL s.data.toList).length cap)/\O.ownsRow w.heap.size 9 1 (Z (T (Q g 0 U)) (aL s.data.toList).length cap) (aL s.data.toList).length (cK (aL s.data.toList))/\(aL s.data.toList).length<=s.size+1/\Below w.heap.size w O:=by
 have R:Hid (s.data.toList.length=s.size):=by show _=_;simp
 obtain⟨ZM,hi,A,C,F⟩:=kO oZ;go_enter func199,ntmps199;go_wp2;go_loopw [3,4,5] (λv p i wr=>∃(k f g cap:Nat) (L:List (List UInt8)),f<=k/\k<=s.size/\i=J I k/\p=J I f/\v=Z (T (Q g 0 U)) L.length cap/\Hid (wr.ownsRow w.heap.size 9 1 v L.length (cK L))/\Hid (aL s.data.toList=L++aL (s.data.toList.drop f))/\Hid ((10:UInt8) ∉ (s.data.toList.drop f).take (k - f))/\L.length<=k/\Hid (Below w.heap.size w wr)) (λ_ _ i _=>s.size - (intOf i).toNat);case atStart=>exact⟨0,0,w.heap.size,0,[],by omega,by omega,rfl,rfl,rfl,Bi w _ _,by simp[Hid],by simp[Hid],by simp,br.alloc ly _⟩
 case round =>
  obtain⟨k,f,g,cap,L,y,hks,rfl,rfl,rfl,q,G,ZO,hLk,t⟩:=hrel;have u:w.heap.size<=wr.heap.size:=t.size;have c1:(0:Int)<=f:=by omega
  have c2:(f:Int)<=k:=by omega
  have c3:(k:Int)<=s.size:=by omega
  have c4:(f:Int)<=s.size:=by omega
  by_cases D:k<s.size
  ·have S:(k:Int)<s.size:=by omega
   have E:k<s.data.toList.length:=by rw[R.out];exact D
   have K:=λV=>ixS s (k:Int) k rfl D V;have B:=ae (λh=>Ja y E h);have x:=ae (λh=>Ha y E h ZO);generalize s.data.toList[k]=c at K B x;by_cases r:c=10;{subst r;have K:∀V,(Instr.index 9 (Y s) (J I (k:Int))).run Pg V=.ok (J .u8 10) V:=K;have P:=ae (B rfl);have ZP:=ae (qX s f k);go_wp2_with (at_builtin;refine BS _ rfl (.tmp 17) (.tmp 22) 30 rfl w.heap.size 9 ZM (Y ⟨#[]⟩) 1 16 IB hi A C F rfl (by decide) _ L.length (cK L) (by simp[Act.eval]) (q.alloc _) (Q wr.heap.size 0 U) 1 1 [Y (s.extract f k)] (by simp[Act.eval]) rfl (cu wr _ _) (by simp[Value.oneCell']) (by unfold maxLen;omega) (by omega) (by simp;omega) ?_;intro ZL ZJ b l m;obtain⟨ZN,n,rfl⟩:=dq b (by omega);have ZQ:=ae b;have H:=ae (bg (t.alloc u (N #[Y (s.extract f k)] 9)) l (by simp;omega) (λj e=>(q.lt j e).1));clear b l m);refine⟨⟨k+1,k+1,ZN,n,L++[(s.data.toList.drop f).take (k - f)],by omega,by omega,by go_num,by go_num,by simp,?_,?_,by simp[Hid],by simp;omega,H⟩,by simp[intOf];omega⟩;{show World.ownsRow _ _ _ _ _ _ _;rw[kl,<-ZP.out];simp only[cM,eL,nX,FM];exact ZQ};{show _=_;rw[G.out,P.out,ki _ ZO.out];rw[<-P.out];simp}};{have hne:((c.toNat:Int) == 10)=ZA:=(by have:¬ (c.toNat:Int)=10:=λe=>r (by rw[<-SN];show c.toNat=10;omega);simpa using this);go_wp2;exact⟨⟨k+1,f,g,cap,L,by omega,by omega,by go_num,rfl,rfl,q,G,x r,by omega,t⟩,by simp[intOf];omega⟩}
  ·obtain rfl:k=s.size:=by omega
   have ZP:=ae (nR s f);have z:Hid (aL s.data.toList=L++[s.data.toList.drop f]):=by show _=_;have:=ZO.out;rw[IU (by rw[LD,R.out];omega)] at this;rw[G.out,mT this]
   have S:¬ ((s.size:Nat):Int)<s.size:=by omega
   go_wp2_with (at_builtin;refine BS _ rfl (.tmp 26) (.tmp 30) 30 rfl w.heap.size 9 ZM (Y ⟨#[]⟩) 1 16 IB hi A C F rfl (by decide) _ L.length (cK L) (by simp[Act.eval]) (q.alloc _) (Q wr.heap.size 0 U) 1 1 [Y (s.extract f s.size)] (by simp[Act.eval]) rfl (cu wr _ _) (by simp[Value.oneCell']) (by unfold maxLen;omega) (by omega) (by simp;omega) ?_;intro ZL ZJ b l m;obtain⟨ZN,n,rfl⟩:=dq b (by omega);have ZQ:=ae b;have H:=ae (bg (t.alloc u (N #[Y (s.extract f s.size)] 9)) l (by simp;omega) (λj e=>(q.lt j e).1));clear b l m);go_ret;have o:(aL s.data.toList).length=L.length+1:=by rw[z.out];simp
   refine⟨ZN,n,by rw[o];rfl,?_,by omega,H⟩;rw[o,z.out,kl,<-ZP.out];exact ZQ
def tW:Ins:=⟨0,⟨#[]⟩,0⟩
def jT:Link:=⟨⟨#[]⟩,ZA,ZA,0⟩
def Deed.doA (d:Deed)(x:Ins):Deed:={ d with f:=d.f+1,H:=λj=>if j=d.f then x else d.H j }
def Deed.lkA (d:Deed)(l:Link):Deed:={ d with b:=d.b+1,D:=λj=>if j=d.b then l else d.D j }
def aV (name:ByteArray)(kind code:Int)(text:ByteArray):Deed:={ e:=name,m:=kind,E:=code,B:=text,f:=0,H:=λ_=>tW,b:=0,D:=λ_=>jT }
def norm (d:Deed):Deed:={ d with H:=λj=>if j<d.f then d.H j else tW,D:=λj=>if j<d.b then d.D j else jT }
def Good (X:List Deed)(ZK:List UInt8)(ZI:List Deed):Prop :=
 (∃(D:List Deed) (n:Nat),X=D/\ZK=([97,99,99,111,117,110,116,32]++Lib.decDigits n)/\ZI=D) ∨
 (∃(D:List Deed),X=D/\ZK=[101,110,100]/\ZI=D) ∨
 (∃(D:List Deed) (d:Deed),(32:UInt8) ∉ d.e.data.toList/\X=D/\ZK=(iD d)/\ZI=(D++[aV d.e 1 0 d.B])) ∨
 (∃(D:List Deed) (d:Deed),(32:UInt8) ∉ d.e.data.toList/\X=D/\ZK=(fT d)/\ZI=(D++[aV d.e 2 0 ⟨#[]⟩])) ∨
 (∃(D:List Deed) (d:Deed),(32:UInt8) ∉ d.e.data.toList/\0<=d.E/\d.E<=5/\X=D/\ZK=(eE d)/\ZI=(D++[aV d.e 3 d.E d.B])) ∨
 (∃(D:List Deed) (d:Deed) (x:Ins),aH x.op x.s.size x.n=ZG/\X=(D++[d])/\ZK=(doT x)/\ZI=(D++[d.doA x])) ∨
 (∃(D:List Deed) (d:Deed) (l:Link),(32:UInt8) ∉ l.e.data.toList/\0<=l.L/\l.L<=400/\((l.ask=ZG->l.has=ZA))/\((l.ask=ZA->l.L=0))/\X=(D++[d])/\ZK=(dH l)/\ZI=(D++[d.lkA l]))
theorem Good.acc (D:List Deed)(n:Nat):Good D ([97,99,99,111,117,110,116,32]++Lib.decDigits n) D:=.inl ⟨D,n,rfl,rfl,rfl⟩
theorem Good.fin (D:List Deed):Good D [101,110,100] D:=.inr (.inl ⟨D,rfl,rfl,rfl⟩)
theorem Good.src (D:List Deed)(d:Deed)(b:(32:UInt8) ∉ d.e.data.toList):Good D (iD d) (D++[aV d.e 1 0 d.B]):=.inr (.inr (.inl ⟨D,d,b,rfl,rfl,rfl⟩))
theorem Good.non (D:List Deed)(d:Deed)(b:(32:UInt8) ∉ d.e.data.toList):Good D (fT d) (D++[aV d.e 2 0 ⟨#[]⟩]):=.inr (.inr (.inr (.inl ⟨D,d,b,rfl,rfl,rfl⟩)))
theorem Good.R (D:List Deed)(d:Deed)(b:(32:UInt8) ∉ d.e.data.toList)(h1:0<=d.E)(h2:d.E<=5):Good D (eE d) (D++[aV d.e 3 d.E d.B]):=.inr (.inr (.inr (.inr (.inl ⟨D,d,b,h1,h2,rfl,rfl,rfl⟩))))
theorem Good.H (D:List Deed)(d:Deed)(x:Ins)(b:aH x.op x.s.size x.n=ZG):Good (D++[d]) (doT x) (D++[d.doA x]):=.inr (.inr (.inr (.inr (.inr (.inl ⟨D,d,x,b,rfl,rfl,rfl⟩)))))
theorem Good.V (D:List Deed)(d:Deed)(l:Link)(b:(32:UInt8) ∉ l.e.data.toList)(h1:0<=l.L)(h2:l.L<=400)(h3:(l.ask=ZG->l.has=ZA))(h4:(l.ask=ZA->l.L=0)):Good (D++[d]) (dH l) (D++[d.lkA l]):=.inr (.inr (.inr (.inr (.inr (.inr ⟨D,d,l,b,h1,h2,h3,h4,rfl,rfl,rfl⟩)))))
def bB:List Deed->List (List UInt8)->List Deed->Prop
 |D,[],E=>D=E
 |D,l::ls,E=>∃G,Good D l G/\bB G ls E
theorem fE:∀{a b:List (List UInt8)} {D E F:List Deed},bB D a E->bB E b F->bB D (a++b) F
 |[],_,_,_,_,h,k=>by rw[show _=_ from h];exact k
 |_::_,_,_,_,_,⟨G,h1,h2⟩,k=>⟨G,h1,fE h2 k⟩
theorem fX{D E:List Deed}(h:Good D l E):bB D [l] E:=⟨E,h,rfl⟩
def ux (g:Nat->Ins)(n:Nat):List (List UInt8):=(List.range n).map λk=>doT (g k)
def uy (g:Nat->Link)(n:Nat):List (List UInt8):=(List.range n).map λk=>dH (g k)
def gY (d:Deed):List (List UInt8):=if d.m=1 then [iD d] else if d.m=2 then [fT d] else eE d::(ux d.H d.f++uy d.D d.b++[[101,110,100]])
def uz (f:Nat->Deed)(n:Nat):List (List UInt8):=([97,99,99,111,117,110,116,32]++Lib.decDigits n)::(List.range n).flatMap λp=>gY (f p)
def fK (b:List (List UInt8)):List UInt8:=b.flatMap λl=>l++[10]
theorem iE (a b:List (List UInt8)):fK (a++b)=fK a++fK b:=by simp[fK]
theorem xT (g:Nat->Ins):∀n,fK (ux g n)=fq g n
 |0=>rfl
 |n+1=>by have b:=xT g n;unfold ux at b ⊢;rw[OQ,DN,iE,b,fq];simp[fK]
theorem xU (g:Nat->Link):∀n,fK (uy g n)=ee g n
 |0=>rfl
 |n+1=>by have b:=xU g n;unfold uy at b ⊢;rw[OQ,DN,iE,b,ee];simp[fK]
theorem Bl (d:Deed):fK (gY d)=dI d:=by
 unfold gY dI;split;{simp[fK]};{split;{simp[fK]};{rw[show ∀(x:List UInt8) (l:List (List UInt8)),x::l=[x]++l from λ_ _=>rfl,iE,iE,iE,xT,xU,mV];simp[fK]}}
theorem sj (f:Nat->Deed)(n:Nat):∀k,fK (([97,99,99,111,117,110,116,32]++Lib.decDigits n)::(List.range k).flatMap λp=>gY (f p))=aN f n k
 |0=>by simp[fK,aN]
 |k+1=>by have b:=sj f n k;rw[OQ,BO,<-IN,iE,b,aN];simp[Bl]
def fU (d:Deed)(k:Nat):Deed:={ aV d.e 3 d.E d.B with f:=k,H:=λj=>if j<k then d.H j else tW }
def gZ (d:Deed)(k:Nat):Deed:={ fU d d.f with b:=k,D:=λj=>if j<k then d.D j else jT }
theorem zk (d:Deed)(k:Nat):(fU d k).doA (d.H k)=fU d (k+1):=by
 unfold Deed.doA fU;simp only[Deed.mk.injEq,TF,and_true];funext j;by_cases h:j=k;{subst h;simp};{simp only[gM h];by_cases h2:j<k;{rw[p6 h2,p6 (by omega)]};{rw[gM h2,gM (by omega)]}}
theorem zm (d:Deed)(k:Nat):(gZ d k).lkA (d.D k)=gZ d (k+1):=by
 unfold Deed.lkA gZ;simp only[Deed.mk.injEq,TF];funext j;by_cases h:j=k;{subst h;simp};{simp only[gM h];by_cases h2:j<k;{rw[p6 h2,p6 (by omega)]};{rw[gM h2,gM (by omega)]}}
theorem xV {d:Deed}(D:List Deed)(h:dC d.H d.f=ZG):∀k,k<=d.f->bB (D++[fU d 0]) (ux d.H k) (D++[fU d k])
 |0,_=>rfl
 |k+1,hk=>by
  have b:=xV D h k (by omega);have g:Good (D++[fU d k]) (doT (d.H k)) (D++[fU d (k+1)]):=by rw[<-zk];exact Good.H D _ _ (gP h (by omega))
  unfold ux at b ⊢;rw[OQ,DN];exact fE b (fX g)
theorem pT (h:aw s=ZG):∀c∈s.data.toList,33<=c.toNat/\c.toNat<=126:=by
 unfold aw at h;rw[z8] at h;intro c f;obtain⟨k,b,rfl⟩:=UK f;have hk':k<s.size:=by simpa using b
 have h2:=oe (show k+1<=s.size by omega) h.2;rw[dK,z8] at h2;have h3:=h2.2;rw[UG (by simpa using b)] at h3;simpa using h3
theorem km (h:aw s=ZG):(32:UInt8) ∉ s.data.toList:=λb=>by have:=(pT h 32 b).1;have e:(32:UInt8).toNat=32:=rfl;omega
theorem ss (h:aw s=ZG):(10:UInt8) ∉ s.data.toList:=λb=>by have:=(pT h 10 b).1;have e:(10:UInt8).toNat=10:=rfl;omega
theorem xW {f:Nat->Deed}{p:Nat}{d:Deed}(D:List Deed)(j:p<=400)(h:bN f p d d.b=ZG):∀k,k<=d.b->bB (D++[gZ d 0]) (uy d.D k) (D++[gZ d k])
 |0,_=>rfl
 |k+1,hk=>by
  have i:=xW D j h k (by omega);have b:=fR h k (by omega);have hz:=iS b;unfold eu at b;rw[z8] at b;have g:Good (D++[gZ d k]) (dH (d.D k)) (D++[gZ d (k+1)]):=by
   rw[<-zm];refine Good.V D _ _ (km b.1) hz.2.1 (by omega) (λc=>?_) λc=>?_
   ·have h2:=b.2
    rw[p6 c] at h2;simp only[z8] at h2;simpa using h2.1.1.1
   ·have h2:=b.2
    rw[gM (by simp[c])] at h2;simpa using h2
  unfold uy at i ⊢;rw[OQ,DN];exact fE i (fX g)
theorem xX{d:Deed}(b:d.f=0)(c:d.b=0):norm d=aV d.e d.m d.E d.B:=by unfold norm aV;simp only[Deed.mk.injEq,TF];exact⟨b,by funext j;rw[gM (by omega)],c,by funext j;rw[gM (by omega)]⟩
theorem zn (h:s.size=0):s=⟨#[]⟩:=by
 refine N5 (QS ?_);have:s.data.toList.length=0:=by simpa using h
 exact PL.1 this
theorem Bm{f:Nat->Deed}(h:de f n=ZG)(t:p<n)(D:List Deed):bB D (gY (f p)) (D++[norm (f p)]):=by
 have hn:=fS h;have h1:=fQ hn.2.2 p t;simp only[bi,z8,kindOk,AI] at h1;obtain⟨⟨c,_⟩,h2⟩:=h1;unfold gY;split at h2;{rename_i b;simp only[aY,z8,AI] at h2;rw[p6 b,xX h2.1.2 h2.2,b,h2.1.1];exact fX (Good.src D _ (km c))}
 ·rename_i j;rw[gM j];split at h2;{rename_i b;simp only[aY,z8,AI] at h2;rw[p6 b,xX h2.1.1.2 h2.1.2,b,h2.1.1.1,zn h2.2];exact fX (Good.non D _ (km c))}
  ·rename_i g;rw[gM g];split at h2
   ·rename_i b;simp only[cH,z8,AI] at h2;obtain⟨⟨⟨⟨a1,u⟩,x⟩,a4⟩,o⟩:=h2;obtain⟨s,b2,b3⟩:=bP x;have r:aV (f p).e 3 (f p).E (f p).B=fU (f p) 0:=by unfold fU aV;simp
    have m:fU (f p) (f p).f=gZ (f p) 0:=by unfold gZ fU aV;simp
    have q:gZ (f p) (f p).b=norm (f p):=by unfold gZ fU aV norm;simp[b]
    refine⟨_,Good.R D _ (km c) a1 u,?_⟩;rw[r];have i:=xV D s _ ly;rw[m] at i;have l:=xW D (by omega) o _ ly;rw[q] at l;exact fE (fE i l) (fX (Good.fin _))
   {cases h2}
theorem Bn{f:Nat->Deed}(h:de f n=ZG):bB [] (uz f n) ((List.range n).map λp=>norm (f p)):=by
 refine⟨[],Good.acc [] n,?_⟩;have b:∀k,k<=n->bB [] ((List.range k).flatMap λp=>gY (f p)) ((List.range k).map λp=>norm (f p)):=by
  intro k;induction k with
  |zero=>intro _;rfl
  |succ k c =>intro hk;rw[OQ,BO,DN];refine fE (c (by omega)) ?_;simpa using Bm h (show k<n by omega) _
 exact b n ly
def tL:List (List UInt8)->List (List UInt8)
 |[]=>[]
 |[l]=>if l=[] then [] else [l]
 |l::b::ls=>l::tL (b::ls)
theorem Hb{b:List (List UInt8)}(h:b≠[]):tL (l::b)=l::tL b:=by obtain⟨l',ls',rfl⟩:=TZ h;rfl
theorem Hc (h:l≠[]):tL [l]=[l]:=gM h
theorem Bo:∀b:List (List UInt8),tL (b++[[]])=b
 |[]=>rfl
 |l::b=>by rw[IN,Hb (by simp),Bo b]
theorem pU:∀{ls:List (List UInt8)},(∀l∈ls,(10:UInt8) ∉ l)->aL (fK ls)=ls++[[]]
 |[],_=>rfl
 |l::ls,h=>by have c:=pU (ls:=ls) λx b=>h x (by simp[b]);show aL (l++[10]++fK ls)=_;rw[ON,List.singleton_append,ki _ (h l (by simp)),c];rfl
theorem pV (t:List UInt8):(10:UInt8) ∉ aF t:=by
 rw[dx];intro b;simp only[AT,p8,PV,nj,QZ] at b;rcases b with (b|⟨c,_,b⟩)|b;{exact absurd b (by decide)};{exact uu c b};{exact absurd b (by decide)}
theorem cS{a b:List UInt8}(c:(10:UInt8) ∉ a)(hb:(10:UInt8) ∉ b):(10:UInt8) ∉ a++b:=λh=>(p8.1 h).elim c hb
theorem wU{f:Nat->Deed}(h:de f n=ZG)(t:p<n):∀l∈gY (f p),(10:UInt8) ∉ l:=by
 have hn:=fS h;have h1:=fQ hn.2.2 p t;simp only[bi,z8,kindOk,AI] at h1;obtain⟨⟨m,_⟩,h2⟩:=h1;have c:=ss m;intro l b;unfold gY at b;split at b;{rw[nD.1 b];exact cS (cS (cS (by decide) c) (by decide)) (pV _)};{rename_i j;split at b;{rw[nD.1 b];exact cS (by decide) c};{rename_i q;rw[gM j,gM q] at h2;split at h2;{simp only[cH,z8,AI] at h2;obtain⟨⟨⟨⟨a1,a2⟩,u⟩,a4⟩,o⟩:=h2;obtain⟨r,b2,b3⟩:=bP u;rcases AT.1 b with b|b;{rw[b];exact cS (cS (cS (cS (cS (by decide) c) (by decide)) (lW _)) (by decide)) (pV _)};{rcases p8.1 b with b|b;{rcases p8.1 b with b|b;{obtain⟨k,i,rfl⟩:=QP.1 b;have ok:=gP r (PE.1 i);refine cS (by decide) ?_;exact AZ (s:=((f p).H k).s.data.toList) (by simpa using ok)};{obtain⟨k,i,rfl⟩:=QP.1 b;have lk:=fR o k (PE.1 i);unfold eu at lk;rw[z8] at lk;have g:=ss lk.1;unfold dH;split;{exact cS (cS (cS (by decide) g) (by decide)) (lW _)};{refine cS (cS (cS (by decide) g) (by decide)) ?_;split<;>decide}}};{rw[nD.1 b];decide}}};{cases h2}}}
theorem wV{f:Nat->Deed}(h:de f n=ZG):∀l∈uz f n,(10:UInt8) ∉ l:=by
 intro l b;rcases AT.1 b with b|b;{rw[b];exact cS (by decide) (lW _)};{obtain⟨p,c,b⟩:=PV.1 b;exact wU h (PE.1 c) l b}
theorem su{f:Nat->Deed}(h:de f n=ZG):bB [] (tL (aL (aN f n n))) ((List.range n).map λp=>norm (f p)):=by have e:fK (uz f n)=aN f n n:=sj f n n;rw[<-e,pU (wV h),Bo];exact Bn h
structure FtR (k:Nat)(d:Deed):Prop where
 a:d.f<=k
 l:d.b<=k
 n:d.e.size<=300000
 t:d.B.size<=300000
 x:∀j,j<d.f->(d.H j).s.size<=300000
 y:∀j,j<d.b->(d.D j).e.size<=300000
def SzD (k:Nat)(D:List Deed):Prop:=D.length<=k/\∀d∈D,FtR k d
theorem FtR.up{k:Nat}{d:Deed}(h:FtR k d)(b:k<=m):FtR m d:=⟨p7 h.a b,p7 h.l b,h.n,h.t,h.x,h.y⟩
theorem SzD.up{k:Nat}{D:List Deed}(h:SzD k D)(b:k<=m):SzD m D:=⟨p7 h.1 b,λd c=>(h.2 d c).up b⟩
theorem SzD.nil (k:Nat):SzD k []:=⟨E4 _,λd b=>by cases b⟩
theorem SzD.new{k:Nat}{D:List Deed}(h:SzD k D)(name:ByteArray)(kind code:Int)(text:ByteArray)(hn:name.size<=300000)(f:text.size<=300000):SzD (k+1) (D++[aV name kind code text]):=by
 refine⟨by rw[cM];exact VM h.1,λd b=>?_⟩;rcases p8.1 b with b|b;{exact(h.2 d b).up (F6 _)};{rw[nD.1 b];exact⟨E4 _,E4 _,hn,f,λj c=>absurd c (PK _),λj c=>absurd c (PK _)⟩}
theorem SzD.doA{k:Nat}{D:List Deed}{d:Deed}(h:SzD k (D++[d]))(x:Ins)(f:x.s.size<=300000):SzD (k+1) (D++[d.doA x]):=by
 have b:=h.2 d (by simp);refine⟨by have:=h.1;simp at this ⊢;omega,λe c=>?_⟩;rcases p8.1 c with c|c;{exact(h.2 e (by simp[c])).up (F6 _)};{rw[nD.1 c];refine⟨VM b.a,Nat.le_succ_of_le b.l,b.n,b.t,λj g=>?_,b.y⟩;show(if j=d.f then x else d.H j).s.size<=300000;split;{exact f};{have hj':j<d.f+1:=g;exact b.x j (by omega)}}
theorem SzD.lkA{k:Nat}{D:List Deed}{d:Deed}(h:SzD k (D++[d]))(x:Link)(f:x.e.size<=300000):SzD (k+1) (D++[d.lkA x]):=by
 have b:=h.2 d (by simp);refine⟨by have:=h.1;simp at this ⊢;omega,λe c=>?_⟩;rcases p8.1 c with c|c;{exact(h.2 e (by simp[c])).up (F6 _)};{rw[nD.1 c];refine⟨Nat.le_succ_of_le b.a,VM b.l,b.n,b.t,b.x,λj g=>?_⟩;show(if j=d.b then x else d.D j).e.size<=300000;split;{exact f};{have hj':j<d.b+1:=g;exact b.y j (by omega)}}
theorem ou{f:Nat->Deed}(h:bF f n=S)(b:S≠[]):de f n=ZG/\aN f n n=S:=by
 unfold bF at h;split at h;{rename_i h1;split at h;{exact⟨h1,h⟩};{exact absurd h.symm b}};{exact absurd h.symm b}
def nrm (f:Nat->Deed)(n:Nat):List Deed:=(List.range n).map λp=>norm (f p)
def jo (S:List UInt8)(r:Option (List Deed)):Prop :=
 (∀D,r=T D->∃f n,bF f n=S/\S≠[]/\D=nrm f n)/\∀f n,bF f n=S->S≠[]->r=T (nrm f n)
theorem Eo{r b:Option (List Deed)}(h:jo S r)(c:jo S b):r=b:=by
 cases r with
 |some D =>obtain⟨f,n,h1,h2,h3⟩:=h.1 D rfl;rw[c.2 _ _ h1 h2,h3]
 |none =>
  cases b with
  |none=>rfl
  |some D =>obtain⟨f,n,h1,h2,h3⟩:=c.1 D rfl;have:=h.2 _ _ h1 h2;cases this
theorem gJ (h:∀f n,bF f n=S->S=[]):jo S U :=
 ⟨λD e=>(by cases e),λf n h1 h2=>absurd (h f n h1) h2⟩
theorem sw{f:Nat->Deed}(h:bF f n=S)(c:S≠[])(b:∀E,bB [] (tL (aL S)) E->nrm f n=E):jo S (T (nrm f n)):=by refine⟨λD e=>⟨f,n,h,c,(BC e).symm⟩,λf' n' h1 h2=>?_⟩;obtain⟨ok,e⟩:=ou h1 h2;have g:=su ok;rw[e] at g;rw[b _ g];rfl
theorem mX{f:Nat->Deed}(h:bF f n=S)(b:S≠[]):bB [] (tL (aL S)) (nrm f n):=by obtain⟨ok,e⟩:=ou h b;have g:=su ok;rw[e] at g;exact g
theorem lX{f:Nat->Deed}(h:bF f n=S):S.length<=300000:=by
 unfold bF at h;split at h;{split at h;{rw[<-h];assumption};{rw[<-h];simp}};{rw[<-h];simp}
theorem lu (f:Nat->Deed)(n:Nat):(nrm f n).length=n:=by simp[nrm]
theorem Bp (f:Nat->Deed)(hi:i<n):dF (nrm f n) i=norm (f i):=by unfold dF nrm;simp[hi]
theorem pW{w:M}{a:Option Addr}{f:Nat->Deed}(h:SlDeed w a n (dF (nrm f n))):SlDeed w a n f:=by
 rcases h with h|⟨b,off,e,u,o⟩
 {exact .inl h}
 ·refine .inr ⟨b,off,e,u,λi hi=>?_⟩;have h1:=o i hi;rw[Bp f hi] at h1;obtain⟨q,r,p,x,⟨a0,c0,s,r0⟩,⟨a1,c1,t,r1⟩⟩:=h1;refine⟨q,r,p,x,⟨a0,c0,s,?_⟩,⟨a1,c1,t,?_⟩⟩
  ·rcases r0 with r0|⟨b0,o0,m,l,g⟩
   {exact .inl r0};{refine .inr ⟨b0,o0,m,l,λj c=>?_⟩;have:=g j c;rw[show(norm (f i)).H j=(f i).H j from p6 c] at this;exact this}
  ·rcases r1 with r1|⟨b0,o0,m,l,g⟩
   {exact .inl r1};{refine .inr ⟨b0,o0,m,l,λj c=>?_⟩;have:=g j c;rw[show(norm (f i)).D j=(f i).D j from p6 c] at this;exact this}
theorem nS{f:Nat->Deed}{k:Nat}(h:SzD k (nrm f n))(hk:k<=400000):∀i,i<n->cV (f i)/\fj (f i):=by
 intro i hi;have h1:=h.2 (norm (f i)) (by unfold nrm;exact QP.2 ⟨i,PE.2 hi,rfl⟩);have ha:(f i).f<=k:=h1.a;have hl:(f i).b<=k:=h1.l;have hn:(f i).e.size<=300000:=h1.n;have ht:(f i).B.size<=300000:=h1.t;refine⟨⟨by omega,by omega⟩,by unfold maxLen;omega,by unfold maxLen;omega,⟨by omega,λj b=>?_⟩,by omega,λj b=>?_⟩;{have:=h1.x j b;rw[show(norm (f i)).H j=(f i).H j from p6 b] at this;unfold maxLen;omega};{have:=h1.y j b;rw[show(norm (f i)).D j=(f i).D j from p6 b] at this;unfold maxLen;omega}
theorem Bq{D:List Deed}{k:Nat}(h:SzD k D)(hk:k<=400000):∀i,i<D.length->cV (dF D i)/\fj (dF D i):=by
 intro i hi;have e:dF D i=D[i]:=by unfold dF;simp[hi]
 have h1:=h.2 D[i] (gz hi);rw[e];have h2:=h1.a;have h3:=h1.l;have h4:=h1.n;have h5:=h1.t;refine⟨⟨by omega,by omega⟩,by unfold maxLen;omega,by unfold maxLen;omega,⟨by omega,λj b=>?_⟩,by omega,λj b=>?_⟩;{have:=h1.x j b;unfold maxLen;omega};{have:=h1.y j b;unfold maxLen;omega}
def zo (o:Option I3):ZC:=match o with
 |some i=>.tuple #[.agg #[J I i.1,Y ⟨i.2.1.toArray⟩,J I i.2.2],ZD ZG]
 |none=>.tuple #[.agg #[J I 0,Y ⟨#[]⟩,J I 0],ZD ZA]
theorem zp (k:Int):(word k).length<=6:=by unfold word;split<;>decide
theorem zq (s:ByteArray)(w:M)(hs:s.size<=16777216):Calls Pg 203 #[Y s] w λe n=>e=ZF (zo (bE s.data.toList))/\Below w.heap.size w n:=by
 have HL:Hid (s.data.toList.length=s.size):=by show _=_;simp
 have C0:=ae (CI.new w (J I 0) (Y ⟨#[]⟩) (J I 0));have B0:=ae ((q9 w).alloc ly (N #[J I 0,Y ⟨#[]⟩,J I 0] 151));go_enter func203,ntmps203;go_wp2;go_loopw [4] (λi wr=>∃k:Nat,1<=k/\k<=16/\i=J I k/\Hid (∀j:Int,1<=j->j<k->∀t m,¬ ew s.data.toList j t m)/\Hid (CI wr w.heap.size (J I 0) (Y ⟨#[]⟩) (J I 0))/\Hid (Below w.heap.size w wr)) (λi _=>16 - (intOf i).toNat);case atStart=>exact⟨1,by omega,by omega,rfl,λj h1 h2=>by omega,C0,B0⟩
 case round =>
  clear C0 B0;obtain⟨k,hk1,hk2,rfl,F,H,HB⟩:=hrel;have ZN:w.heap.size<wr.heap.size:=H.lt;by_cases hlt:k<16
  ·have i15:(k:Int)<=15:=by omega
   have ZK:=λV=>yH (k:Int) V;have K:Hid (eC k s.data.toList=if kind k=1/\(⟨(word k).toArray⟩:ByteArray).size<s.size then be (bS (s.data.toList.drop ((⟨(word k).toArray⟩:ByteArray).size+1))) else []):=by show _=_;unfold eC;rw[HL.out];rfl
   have L:Hid (eX k s.data.toList=if ¬ kind k=1/\0<kind k/\(⟨(word k).toArray⟩:ByteArray).size<s.size then bQ 0 ((s.data.toList.drop ((⟨(word k).toArray⟩:ByteArray).size+1)).take 6) else 0):=by show _=_;unfold eX;rw[HL.out];rfl
   have dg:(⟨(word k).toArray⟩:ByteArray).size<=6:=zp k;have fd:=xO k;generalize (⟨(word (k:Int)).toArray⟩:ByteArray)=wd at ZK K L dg;generalize kind (k:Int)=kd at ZK K L fd;have f:=ae (λh1 h2=>Eb (s:=s.data.toList) (k:=k) h1 h2);have D:=ae (λh=>GP (s:=s.data.toList) (k:=k) h);have bt:=AR k s.data.toList;rw[HL.out] at bt;generalize eC (k:Int) s.data.toList=o at K f D bt;generalize eX (k:Int) s.data.toList=q at L f D;have P:=ae (CI.new wr (J I (k:Int)) (Y ⟨#[]⟩) (J I 0));have ZL:=ae (HB.alloc (P0 ZN) (N #[J I (k:Int),Y ⟨#[]⟩,J I 0] 151));have aq:(¬ 0<kd∨(0<kd/\¬ (wd.size:Int)<s.size))∨(kd=1/\(wd.size:Int)<s.size)∨(0<kd/\(kd == 1)=ZA/\(wd.size:Int)<s.size):=by
    by_cases h1:0<kd;{by_cases h2:(wd.size:Int)<s.size;{by_cases h3:kd=1;{exact .inr (.inl ⟨h3,h2⟩)};{exact .inr (.inr ⟨h1,by simpa using h3,h2⟩)}};{exact .inl (.inr ⟨h1,h2⟩)}};{exact .inl (.inl h1)}
   rcases aq with hc|⟨rfl,hc⟩|⟨la,S,hc3⟩
   ·have ZJ:o=[]:=by rw[K.out,gM (by omega)]
    have W:q=0:=by rw[L.out,gM (by omega)]
    subst ZJ W;rcases hc with hc|⟨hc,hd⟩
    all_goals
     go_wp2_with (go_at_call 204;go_fit (ZK _);rintro e n ⟨rfl,C⟩;rw[C];clear C);have z:=P;have ZP:=ae (H.aa ((q9 wr).alloc ly (N #[J I (k:Int),Y ⟨#[]⟩,J I 0] 151)) ZN);have G:=ZL;clear P ZL;generalize wr.alloc (N #[J I (k:Int),Y ⟨#[]⟩,J I 0] 151)=W4 at z ZP G ⊢;have ZQ:wr.heap.size<W4.heap.size:=z.lt;have R:∀V,Calls Pg 145 #[.agg #[J I (k:Int),Y ⟨([]:List UInt8).toArray⟩,J I (0:Int)]] V λe n=>e=ZF (ZD (aH (k:Int) ([]:List UInt8).length (0:Int)))/\Below V.heap.size V n:=λV=>iO (k:Int) ⟨([]:List UInt8).toArray⟩ (0:Int) V (by unfold maxLen;show([]:List UInt8).length<=_;simp);have r:aH (k:Int) ([]:List UInt8).length (0:Int)=ZG->∀V,Calls Pg 190 #[.agg #[J I (k:Int),Y ⟨([]:List UInt8).toArray⟩,J I (0:Int)]] V λe n=>e=ZF (Y ⟨(aR (k:Int) ([]:List UInt8) (0:Int)).toArray⟩)/\Below V.heap.size V n:=λh V=>jv (k:Int) ⟨([]:List UInt8).toArray⟩ (0:Int) V h;have b:Hid (¬ (aH (k:Int) ([]:List UInt8).length (0:Int)=ZG/\aR (k:Int) ([]:List UInt8) (0:Int)=s.data.toList)->∀j:Int,1<=j->j<((k+1:Nat):Int)->∀t m,¬ ew s.data.toList j t m):=λh j h1 h2 t m=>by
      by_cases e:j=k
      ·rw[e];exact D h t m
      ·exact F j h1 (by omega) t m
     clear D F;refine(R _).mono ?_;rintro e ZO ⟨rfl,l⟩;have E:=ae (G.trans (l.mono (by omega)));have y:=ae (ZP.aa l (by omega));have u:=ae (z.aa l ZQ);have z2:w.heap.size<ZO.heap.size:=y.lt;have ZM:wr.heap.size<ZO.heap.size:=u.lt;clear l R z ZP G;cases hok:aH (k:Int) ([]:List UInt8).length (0:Int) with
     |false =>have x:=ae (b (λh=>by rw[hok] at h;exact absurd h.1 (by simp)));clear b f r;go_wp2;exact⟨⟨k+1,by omega,by omega,by go_num,x,y,E⟩,by simp[intOf];omega⟩
     |true =>
      have r:=r hok;have f:=ae (f hok);have b:=ae (λ(h:¬ aR (k:Int) ([]:List UInt8) (0:Int)=s.data.toList)=>b (λX=>h X.2));generalize aR (k:Int) ([]:List UInt8) (0:Int)=ln at r f b;have c0:=u.c0;have c1:=u.c1;have c2:=u.c2;go_wp2_with fail;refine(r _).mono ?_;rintro e ZI ⟨rfl,g⟩;clear c0 c1 c2;have O:=ae (E.trans (g.mono (by omega)));have c:=ae (y.aa g z2);have I3:=ae (u.aa g ZM);have z3:w.heap.size<ZI.heap.size:=c.lt;clear g r E y u;cases heq:(ln == s.toList) with
      |false =>have x:=ae (b (λh=>by rw[h,BG] at heq;simp at heq));go_wp2;exact⟨⟨k+1,by omega,by omega,by go_num,x,c,O⟩,by simp[intOf];omega⟩
      |true =>
       have x:=ae (f (by have:=eq_of_beq heq;rw[BG] at this;exact this));have c0:=I3.c0;have c1:=I3.c1;have c2:=I3.c2;have d0:=c.c0;have d1:=c.c1;have d2:=c.c2;have f0:=c.fz 0;have f1:=c.fz 1;have f2:=c.fz 2;go_wp2;try simp only[Exit.inBlock,Exit.then]
       refine bp (eI rfl _ _ w.heap.size _ _ _ rfl (c.all _ _ _)) rfl ?_;exact⟨by rw[x.out];rfl,((O.setCell (p:=(Q w.heap.size 0 U)) ly _).setCell (p:=(Q w.heap.size 1 U)) ly _).setCell (p:=(Q w.heap.size 2 U)) ly _⟩
   ·have ZJ:o=be (bS (s.data.toList.drop (wd.size+1))):=by rw[K.out,p6 ⟨rfl,by omega⟩]
    have W:q=0:=by rw[L.out,gM (λh=>h.1 rfl)]
    subst W;have q1:(0:Int)<=(wd.size:Int)+1:=by omega
    have q2:(wd.size:Int)+1<=s.size:=by omega
    have q3:(s.size:Int)<=9223372036854775807:=by omega
    have UQ:∀V,Calls Pg 201 #[Y (s.extract (wd.size+1) s.size)] V λe n=>e=ZF (Y ⟨o.toArray⟩)/\Below V.heap.size V n:=λV=>by have h:=jn (s.extract (wd.size+1) s.size) V (by rw[RQ];omega);rw[show(s.extract (wd.size+1) s.size).data.toList=s.data.toList.drop (wd.size+1) by rw[nR],<-ZJ] at h;exact h
    clear ZJ;have RX:=ae (H.aa ((q9 wr).alloc ly (N #[J I (k:Int),Y ⟨#[]⟩,J I 0] 151)) ZN);have zX:wr.heap.size<(wr.alloc (N #[J I (k:Int),Y ⟨#[]⟩,J I 0] 151)).heap.size:=P.lt
    go_wp2_with (first
     |(go_at_call 204;go_fit (ZK _);rintro e n ⟨rfl,C⟩;rw[C];clear C)
     |(go_at_call 201;go_fit (UQ _);rintro e w1 ⟨rfl,A⟩;have B:=ae (P.aa A zX);have R1:=ae (RX.aa A (by omega));have B1:=ae (ZL.trans (A.mono (by omega)));have c0:=B.c0;have c1:=B.c1;have c2:=B.c2;have f1:=B.fz 1;clear A))
    have z:=ae (B.set1 (Y ⟨o.toArray⟩));have ZP:=ae (R1.other (Q wr.heap.size 1 U) (by show wr.heap.size≠w.heap.size;omega) (Y ⟨o.toArray⟩));have G:=ae (B1.setCell (p:=(Q wr.heap.size 1 U)) (P0 ZN) (Y ⟨o.toArray⟩));clear c0 c1 c2 f1 B R1 B1 P ZL RX UQ;generalize w1.setCell (Q wr.heap.size 1 U) (Y ⟨o.toArray⟩)=W4 at z ZP G ⊢;have ZQ:wr.heap.size<W4.heap.size:=z.lt;have R:∀V,Calls Pg 145 #[.agg #[J I (k:Int),Y ⟨o.toArray⟩,J I (0:Int)]] V λe n=>e=ZF (ZD (aH (k:Int) o.length (0:Int)))/\Below V.heap.size V n:=λV=>iO (k:Int) ⟨o.toArray⟩ (0:Int) V (by unfold maxLen;show o.length<=_;omega);have r:aH (k:Int) o.length (0:Int)=ZG->∀V,Calls Pg 190 #[.agg #[J I (k:Int),Y ⟨o.toArray⟩,J I (0:Int)]] V λe n=>e=ZF (Y ⟨(aR (k:Int) o (0:Int)).toArray⟩)/\Below V.heap.size V n:=λh V=>jv (k:Int) ⟨o.toArray⟩ (0:Int) V h;have b:Hid (¬ (aH (k:Int) o.length (0:Int)=ZG/\aR (k:Int) o (0:Int)=s.data.toList)->∀j:Int,1<=j->j<((k+1:Nat):Int)->∀t m,¬ ew s.data.toList j t m):=λh j h1 h2 t m=>by
     by_cases e:j=k;{rw[e];exact D h t m};{exact F j h1 (by omega) t m}
    clear D F;refine(R _).mono ?_;rintro e ZO ⟨rfl,l⟩;have E:=ae (G.trans (l.mono (by omega)));have y:=ae (ZP.aa l (by omega));have u:=ae (z.aa l ZQ);have z2:w.heap.size<ZO.heap.size:=y.lt;have ZM:wr.heap.size<ZO.heap.size:=u.lt;clear l R z ZP G;cases hok:aH (k:Int) o.length (0:Int) with
    |false =>have x:=ae (b (λh=>by rw[hok] at h;exact absurd h.1 (by simp)));clear b f r;go_wp2;exact⟨⟨k+1,by omega,by omega,by go_num,x,y,E⟩,by simp[intOf];omega⟩
    |true =>
     have r:=r hok;have f:=ae (f hok);have b:=ae (λ(h:¬ aR (k:Int) o (0:Int)=s.data.toList)=>b (λX=>h X.2));generalize aR (k:Int) o (0:Int)=ln at r f b;have c0:=u.c0;have c1:=u.c1;have c2:=u.c2;go_wp2_with fail;refine(r _).mono ?_;rintro e ZI ⟨rfl,g⟩;clear c0 c1 c2;have O:=ae (E.trans (g.mono (by omega)));have c:=ae (y.aa g z2);have I3:=ae (u.aa g ZM);have z3:w.heap.size<ZI.heap.size:=c.lt;clear g r E y u;cases heq:(ln == s.toList) with
     |false =>have x:=ae (b (λh=>by rw[h,BG] at heq;simp at heq));go_wp2;exact⟨⟨k+1,by omega,by omega,by go_num,x,c,O⟩,by simp[intOf];omega⟩
     |true =>
      have x:=ae (f (by have:=eq_of_beq heq;rw[BG] at this;exact this));have c0:=I3.c0;have c1:=I3.c1;have c2:=I3.c2;have d0:=c.c0;have d1:=c.c1;have d2:=c.c2;have f0:=c.fz 0;have f1:=c.fz 1;have f2:=c.fz 2;go_wp2;try simp only[Exit.inBlock,Exit.then]
      refine bp (eI rfl _ _ w.heap.size _ _ _ rfl (c.all _ _ _)) rfl ?_;exact⟨by rw[x.out];rfl,((O.setCell (p:=(Q w.heap.size 0 U)) ly _).setCell (p:=(Q w.heap.size 1 U)) ly _).setCell (p:=(Q w.heap.size 2 U)) ly _⟩
   ·have ZJ:o=[]:=by rw[K.out,gM (λh=>by rw[h.1] at S;simp at S)]
    have W:q=bQ 0 ((s.data.toList.drop (wd.size+1)).take 6):=by rw[L.out,p6 ⟨λh=>by rw[h] at S;simp at S,la,by omega⟩]
    subst ZJ;have q1:(0:Int)<=(wd.size:Int)+1:=by omega
    have q2:(wd.size:Int)+1<=s.size:=by omega
    have q3:(s.size:Int)<=9223372036854775807:=by omega
    have UQ:∀V,Calls Pg 202 #[Y (s.extract (wd.size+1) s.size)] V λe n=>e=ZF (J I q)/\Below V.heap.size V n:=λV=>by have h:=jS (s.extract (wd.size+1) s.size) V (by rw[RQ];omega);rw[show(s.extract (wd.size+1) s.size).data.toList=s.data.toList.drop (wd.size+1) by rw[nR],<-W] at h;refine h.mono ?_;rintro e n ⟨rfl,rfl⟩;exact⟨rfl,dB _ _⟩
    clear W;have RX:=ae (H.aa ((q9 wr).alloc ly (N #[J I (k:Int),Y ⟨#[]⟩,J I 0] 151)) ZN);have zX:wr.heap.size<(wr.alloc (N #[J I (k:Int),Y ⟨#[]⟩,J I 0] 151)).heap.size:=P.lt
    go_wp2_with (first
     |(go_at_call 204;go_fit (ZK _);rintro e n ⟨rfl,C⟩;rw[C];clear C)
     |(go_at_call 202;go_fit (UQ _);rintro e w1 ⟨rfl,A⟩;have B:=ae (P.aa A zX);have R1:=ae (RX.aa A (by omega));have B1:=ae (ZL.trans (A.mono (by omega)));have c0:=B.c0;have c1:=B.c1;have c2:=B.c2;have f1:=B.fz 2;clear A))
    have z:=ae (B.set2 (J I q));have ZP:=ae (R1.other (Q wr.heap.size 2 U) (by show wr.heap.size≠w.heap.size;omega) (J I q));have G:=ae (B1.setCell (p:=(Q wr.heap.size 2 U)) (P0 ZN) (J I q));clear c0 c1 c2 f1 B R1 B1 P ZL RX UQ;generalize w1.setCell (Q wr.heap.size 2 U) (J I q)=W4 at z ZP G ⊢;have ZQ:wr.heap.size<W4.heap.size:=z.lt;have R:∀V,Calls Pg 145 #[.agg #[J I (k:Int),Y ⟨([]:List UInt8).toArray⟩,J I q]] V λe n=>e=ZF (ZD (aH (k:Int) ([]:List UInt8).length q))/\Below V.heap.size V n:=λV=>iO (k:Int) ⟨([]:List UInt8).toArray⟩ q V (by unfold maxLen;show([]:List UInt8).length<=_;simp);have r:aH (k:Int) ([]:List UInt8).length q=ZG->∀V,Calls Pg 190 #[.agg #[J I (k:Int),Y ⟨([]:List UInt8).toArray⟩,J I q]] V λe n=>e=ZF (Y ⟨(aR (k:Int) ([]:List UInt8) q).toArray⟩)/\Below V.heap.size V n:=λh V=>jv (k:Int) ⟨([]:List UInt8).toArray⟩ q V h;have b:Hid (¬ (aH (k:Int) ([]:List UInt8).length q=ZG/\aR (k:Int) ([]:List UInt8) q=s.data.toList)->∀j:Int,1<=j->j<((k+1:Nat):Int)->∀t m,¬ ew s.data.toList j t m):=λh j h1 h2 t m=>by
     by_cases e:j=k;{rw[e];exact D h t m};{exact F j h1 (by omega) t m}
    clear D F;refine(R _).mono ?_;rintro e ZO ⟨rfl,l⟩;have E:=ae (G.trans (l.mono (by omega)));have y:=ae (ZP.aa l (by omega));have u:=ae (z.aa l ZQ);have z2:w.heap.size<ZO.heap.size:=y.lt;have ZM:wr.heap.size<ZO.heap.size:=u.lt;clear l R z ZP G;cases hok:aH (k:Int) ([]:List UInt8).length q with
    |false =>have x:=ae (b (λh=>by rw[hok] at h;exact absurd h.1 (by simp)));clear b f r;go_wp2;exact⟨⟨k+1,by omega,by omega,by go_num,x,y,E⟩,by simp[intOf];omega⟩
    |true =>
     have r:=r hok;have f:=ae (f hok);have b:=ae (λ(h:¬ aR (k:Int) ([]:List UInt8) q=s.data.toList)=>b (λX=>h X.2));generalize aR (k:Int) ([]:List UInt8) q=ln at r f b;have c0:=u.c0;have c1:=u.c1;have c2:=u.c2;go_wp2_with fail;refine(r _).mono ?_;rintro e ZI ⟨rfl,g⟩;clear c0 c1 c2;have O:=ae (E.trans (g.mono (by omega)));have c:=ae (y.aa g z2);have I3:=ae (u.aa g ZM);have z3:w.heap.size<ZI.heap.size:=c.lt;clear g r E y u;cases heq:(ln == s.toList) with
     |false =>have x:=ae (b (λh=>by rw[h,BG] at heq;simp at heq));go_wp2;exact⟨⟨k+1,by omega,by omega,by go_num,x,c,O⟩,by simp[intOf];omega⟩
     |true =>
      have x:=ae (f (by have:=eq_of_beq heq;rw[BG] at this;exact this));have c0:=I3.c0;have c1:=I3.c1;have c2:=I3.c2;have d0:=c.c0;have d1:=c.c1;have d2:=c.c2;have f0:=c.fz 0;have f1:=c.fz 1;have f2:=c.fz 2;go_wp2;try simp only[Exit.inBlock,Exit.then]
      refine bp (eI rfl _ _ w.heap.size _ _ _ rfl (c.all _ _ _)) rfl ?_;exact⟨by rw[x.out];rfl,((O.setCell (p:=(Q w.heap.size 0 U)) ly _).setCell (p:=(Q w.heap.size 1 U)) ly _).setCell (p:=(Q w.heap.size 2 U)) ly _⟩
  ·obtain rfl:k=16:=by omega
   have HR:Hid (bE s.data.toList=U):=Ec λj h1 h2=>F j h1 (by omega);have c0:=H.c0;have c1:=H.c1;have c2:=H.c2;have f0:=H.fz 0;have f1:=H.fz 1;have f2:=H.fz 2;go_wp2;try simp only[Exit.inBlock,Exit.then]
   refine bp (eI rfl _ _ w.heap.size _ _ _ rfl (H.all _ _ _)) rfl ?_;exact⟨by rw[HR.out];rfl,((HB.setCell (p:=(Q w.heap.size 0 U)) ly _).setCell (p:=(Q w.heap.size 1 U)) ly _).setCell (p:=(Q w.heap.size 2 U)) ly _⟩
