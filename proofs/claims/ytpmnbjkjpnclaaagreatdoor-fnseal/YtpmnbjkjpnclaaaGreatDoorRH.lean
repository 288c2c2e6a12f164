import Derived.Test.YtpmnbjkjpnclaaaGreatDoorRC
import Derived.Test.YtpmnbjkjpnclaaaGreatDoorRG
set_option maxRecDepth 100000
set_option maxHeartbeats 8000000
set_option linter.unusedSimpArgs false
open Go renaming Addr.mk->Q,Value.slice->Z,Value.string->U,Value.int->N,Value.bool->ZD,Value.agg->ZH,Obj.cells->J,IntKind.i64->I,World->M,Value->ZC,Ending.returned->ZF,Proofs.Tryz.prog->Pg
open Option renaming none->Y,some->T
open Bool renaming false->ZA,true->ZG
namespace Go.Proofs.YtpmnbjkjpnclaaaGreatDoor.Vp
open Tryz RowKit
variable {n i f p m:Nat}{S l:List UInt8}{s:ByteArray}
theorem iV (c:UInt8)(w:M):Calls Pg 250 #[N .u8 c.toNat] w λe j=>e=ZF (N I (aT c))/\j=w:=by
 have hc:=c.toNat_lt;have hn:(48<=(c.toNat:Int)/\(c.toNat:Int)<=57/\aT c=(c.toNat:Int) - 48)∨(48<=(c.toNat:Int)/\¬ (c.toNat:Int)<=57/\97<=(c.toNat:Int)/\(c.toNat:Int)<=102/\aT c=(c.toNat:Int) - 87)∨(¬ 48<=(c.toNat:Int)/\¬ 97<=(c.toNat:Int)/\aT c=-1)∨(48<=(c.toNat:Int)/\¬ (c.toNat:Int)<=57/\¬ 97<=(c.toNat:Int)/\aT c=-1)∨(48<=(c.toNat:Int)/\¬ (c.toNat:Int)<=57/\97<=(c.toNat:Int)/\¬ (c.toNat:Int)<=102/\aT c=-1):=by
  unfold aT;split;{omega};{split<;>omega}
 rcases hn with ⟨f,b,h⟩|⟨f,b,g,i,h⟩|⟨f,b,h⟩|⟨f,b,g,h⟩|⟨f,b,g,i,h⟩
 all_goals
  rw[h];clear h;go_enter func250,ntmps250;go_wp2;go_ret;exact⟨by go_num,rfl⟩
theorem take_at{k:Nat}(h:k<s.size):s.data.toList.take (k+1)=s.data.toList.take k++[s[k]]:=by rw[QW (by simpa using h)];rfl
theorem Bj (l:List UInt8)(c:UInt8):bQ 0 (l++[c])=bQ 0 l*10+c.toNat - 48:=by rw[oU];rfl
theorem Hf:∀(l:List UInt8),l.length<=6->-1000000000<=bQ 0 l/\bQ 0 l<=1000000000:=by
 intro l h;match l,h with
 |[],_=>decide
 |[a],_=>simp only[bQ];have:=a.toNat_lt;omega
 |[a,b],_=>simp only[bQ];have:=a.toNat_lt;have:=b.toNat_lt;omega
 |[a,b,c],_=>simp only[bQ];have:=a.toNat_lt;have:=b.toNat_lt;have:=c.toNat_lt;omega
 |[a,b,c,d],_=>simp only[bQ];have:=a.toNat_lt;have:=b.toNat_lt;have:=c.toNat_lt;have:=d.toNat_lt;omega
 |[a,b,c,d,e],_=>simp only[bQ];have:=a.toNat_lt;have:=b.toNat_lt;have:=c.toNat_lt;have:=d.toNat_lt;have:=e.toNat_lt;omega
 |[a,b,c,d,e,f],_=>simp only[bQ];have:=a.toNat_lt;have:=b.toNat_lt;have:=c.toNat_lt;have:=d.toNat_lt;have:=e.toNat_lt;have:=f.toNat_lt;omega
 |a::b::c::d::e::f::g::r,h=>simp at h
theorem jT (s:ByteArray)(w:M)(hs:s.size<=16777216):Calls Pg 202 #[U s] w λe h=>e=ZF (N I (bQ 0 (s.data.toList.take 6)))/\h=w:=by
 go_enter func202,ntmps202;go_wp2;go_loopw [3,4] (λv i wr=>∃k:Nat,k<=s.size/\k<=6/\i=N I k/\v=N I (bQ 0 (s.data.toList.take k))/\wr=w) (λ_ i _=>s.size - (intOf i).toNat);case atStart=>exact⟨0,by omega,by omega,rfl,rfl,rfl⟩
 case round =>
  obtain⟨k,hk,hk6,rfl,rfl,rfl⟩:=hrel;by_cases c:k<s.size
  ·by_cases h6:k<6
   ·have f:=ae (show bQ 0 (s.data.toList.take (k+1))=bQ 0 (s.data.toList.take k)*10+s[k].toNat - 48 by rw[take_at c,Bj]);have hb:=Hf (s.data.toList.take k) (by rw[OR];omega);have hc:=s[k].toNat_lt;have b:(k:Int)<s.size:=by omega
    have i2:(k:Int)<6:=by omega
    generalize bQ 0 (s.data.toList.take k)=x at hb f ⊢;go_wp2;exact⟨⟨k+1,by omega,by omega,by go_num,by rw[f.out],trivial⟩,by simp[intOf];omega⟩
   ·obtain rfl:k=6:=by omega
    have b:(6:Int)<s.size:=by omega
    go_wp2;go_ret;exact⟨rfl,rfl⟩
  ·have g:=ae (show s.data.toList.take 6=s.data.toList.take k by
    rw[IU (by rw[QB,ByteArray.size_data];omega),IU (by rw[QB,ByteArray.size_data];omega)])
   have b:¬ (k:Int)<s.size:=by omega
   go_wp2;go_ret;exact⟨by rw[g.out];rfl,rfl⟩
def rem (l:List UInt8)(i:Nat):List UInt8:=(l.drop i).take (l.length - 1 - i)
theorem o8 (h:i+1<l.length):rem l i=l[i]::rem l (i+1):=by unfold rem;rw[RB (by omega),show l.length - 1 - i=(l.length - 1 - (i+1))+1 by omega,List.take_succ_cons]
theorem Hg (h:¬ i+1<l.length):rem l i=[]:=by unfold rem;rw[show l.length - 1 - i=0 by omega,List.take_zero]
theorem Bl (l:List UInt8):rem l 1=bS l:=by unfold rem bS;rw[show l.length - 1 - 1=l.length - 2 by omega]
theorem Et{c:UInt8}:∀{r:List UInt8},(∀a b f,r=a::b::f->¬ (c=92/\0<=aT a/\0<=aT b))->be (c::r)=c::be r
 |[],_=>by simp[be]
 |[a],_=>by simp[be]
 |a::b::r,h=>by rw[be,gM (h a b r rfl)]
theorem Bm{k:Nat}(h:¬ k+3<l.length){a b:UInt8}{r:List UInt8}:rem l (k+1)≠a::b::r:=by intro e;have:=wA List.length e;unfold rem at this;rw[OR,LK] at this;simp at this;omega
theorem Hh{k:Nat}(h:k+3<l.length):rem l (k+1)=l[k+1]::l[k+2]::rem l (k+3):=by rw[o8 (by omega),o8 (by omega)]
theorem ixS (s:ByteArray)(x:Int)(i:Nat)(b:x=i)(h:i<s.size)(w:M):(Instr.index 9 (U s) (N I x)).run Pg w=.ok (N .u8 s.data.toList[i].toNat) w:=by subst b;rw[run_index_string w 9 s I (i:Int) F3];simp[h];rfl
theorem Eu (w:M)(b g cap:Nat)(l:List UInt8)(h:Bs w b (Z (T (Q g 0 Y)) l.length cap) l):(convert 22 9 (Z (T (Q g 0 Y)) l.length cap)).run Pg w=.ok (U ⟨l.toArray⟩) w :=
 P0 w 22 9 5 (Q g 0 Y) cap l IS N5 F3 (λj c=>h.cell j c)
theorem jo (s:ByteArray)(w:M)(hs:s.size<=16777216):Calls Pg 201 #[U s] w λe q=>e=ZF (U ⟨(be (bS s.data.toList)).toArray⟩)/\Below w.heap.size w q:=by
  have o:Hid (s.data.toList.length=s.size):=by show _=_;simp
  go_enter func201,ntmps201;go_wp2;go_loopw [3,4] (λv i wr=>∃(k g cap:Nat) (l:List UInt8),1<=k/\k<=s.size+1/\i=N I k/\v=Z (T (Q g 0 Y)) l.length cap/\Hid (Bs wr w.heap.size v l)/\Hid (l++be (rem s.data.toList k)=be (bS s.data.toList))/\l.length<=k/\Hid (Below w.heap.size w wr)) (λ_ i _=>s.size+2 - (intOf i).toNat);case atStart=>exact⟨1,w.heap.size,0,[],by omega,by omega,rfl,rfl,Bs.lit w _ [] ly (by unfold maxLen;simp) _ rfl,(by rw[Bl];rfl),by simp,br.alloc ly _⟩
  case round =>
    obtain⟨k,g,cap,l,hk1,hk2,rfl,rfl,u,R,hlk,G⟩:=hrel;have H:w.heap.size<=wr.heap.size:=G.size;by_cases hlt:k+1<s.size
    · have i1:(k:Int)+1<s.size:=by omega
      have ZJ:k+1<s.data.toList.length:=by rw[o.out];omega
      have ZO:=ae (o8 (l:=s.data.toList) ZJ);obtain⟨c,O⟩:∃c,c=s.data.toList[k]:=⟨_,rfl⟩
      rw[<-O] at ZO;have X0:=λV=>ixS s (k:Int) k rfl (by omega) V;rw[<-O] at X0;clear O;have cl:=c.toNat_lt;obtain⟨a,ZL⟩:∃a,a=s.data.toList[k+1]?.getD 0:=⟨_,rfl⟩
      obtain⟨b,hb⟩:∃b,b=s.data.toList[k+2]?.getD 0:=⟨_,rfl⟩
      have ZR:=ae (λ(h3:k+3<s.size)=>(show s.data.toList[k+1]'(by rw[o.out];omega)=a by rw[ZL,gq (by rw[o.out];omega)];rfl));have z:=ae (λ(h3:k+3<s.size)=>(show s.data.toList[k+2]'(by rw[o.out];omega)=b by rw[hb,gq (by rw[o.out];omega)];rfl));have ZK:=ae (λ(h3:k+3<s.size)=>(show rem s.data.toList (k+1)=a::b::rem s.data.toList (k+3) by rw[Hh (by rw[o.out];exact h3),ZR h3,z h3]));have L:Hid (¬ (c=92/\k+3<s.size/\0<=aT a/\0<=aT b)->be (rem s.data.toList k)=c::be (rem s.data.toList (k+1))):=λm=>by
        rw[ZO.out];refine Et λa' b' r' e h=>m ⟨h.1,?_⟩;by_cases h3:k+3<s.size;{rw[ZK.out h3] at e;simp only[List.cons.injEq] at e;exact⟨h3,by rw[e.1];exact h.2.1,by rw[e.2.1];exact h.2.2⟩};{exact absurd e (Bm (by rw[o.out];exact h3))}
      clear ZL hb;by_cases m:c=92/\k+3<s.size/\0<=aT a/\0<=aT b
      · obtain⟨rfl,h3,K,ZQ⟩:=m;have i3:(k:Int)+3<s.size:=by omega
        have F:=λV=>ixS s ((k:Int)+1) (k+1) (by omega) (by omega) V;have E:=λV=>ixS s ((k:Int)+2) (k+2) (by omega) (by omega) V;rw[ZR.out h3] at F;rw[z.out h3] at E;have X:=(gH a).2;have W:=(gH b).2;have C:Hid (16*aT a+aT b=((byteOf a b).toNat:Int)):=by show _=_;unfold byteOf;rw[OD];omega
        have P:Hid (be (rem s.data.toList k)=byteOf a b::be (rem s.data.toList (k+3))):=by show _=_;rw[ZO.out,ZK.out h3,be,p6 ⟨rfl,K,ZQ⟩]
        have r:=iV a;have t:=iV b;generalize aT a=x at X K r C ⊢;generalize aT b=y at W ZQ t C ⊢;go_wp2_with (go_at_call 250;(first|go_fit (r _)|go_fit (t _));rintro e q ⟨rfl,f⟩;rw[f];clear f);have e1:IntKind.i64.wrap ((k:Int)+1)=(k:Int)+1:=by rw[p9];omega
        have e2:IntKind.i64.wrap ((k:Int)+2)=(k:Int)+2:=by rw[p9];omega
        have e3:IntKind.i64.wrap (16*x)=16*x:=by rw[p9];omega
        have e4:IntKind.i64.wrap (16*x+y)=16*x+y:=by rw[p9];omega
        have e5:IntKind.u8.wrap (16*x+y)=16*x+y:=by rw[TN];omega
        have ZM:=ae (u.aa ((q9 wr).alloc ly (J #[N .u8 (16*x+y)] 5)).drew ly)
        go_region_law (first
          | (refine gy rfl (.tmp 40) (.tmp 54) rfl w.heap.size (Z (T (Q g 0 Y)) l.length cap) l (by simp[Act.eval]) ZM.out (Q wr.heap.size 0 Y) 1 [byteOf a b] (by simp[Act.eval]) (gF (by simp[C.out])) (by simp only[eL,nX];omega) (by simp;omega) ?_
             intro v' wZ j n;obtain⟨ZN,p,rfl,_,_⟩:=j.av (by simp);have A:=ae j;have B:Hid (Below w.heap.size w wZ):=(G.alloc H _).drew.grown n (by simp;omega) (λx m=>(SF u x m).1)
             clear j n)
          |(go_simp;go_at_call 250;(first|go_fit (r _)|go_fit (t _));rintro e q ⟨rfl,f⟩;rw[f];clear f))
        all_goals
          go_wp2;exact⟨⟨k+3,ZN,p,l++[byteOf a b],by omega,by omega,by go_num,by simp,(by have:=A.out;simp only[cM,eL,nX,FM] at this;exact this),(by rw[<-R.out,P.out,OV];rfl),by simp;omega,B⟩,by simp[intOf];omega⟩
      · have HN:=ae (L m);have hn:(((c.toNat:Int) == 92)=ZA)∨(((c.toNat:Int) == 92)=ZG/\¬ (k:Int)+3<s.size)∨(((c.toNat:Int) == 92)=ZG/\(k:Int)+3<s.size/\¬ 0<=aT a)∨(((c.toNat:Int) == 92)=ZG/\(k:Int)+3<s.size/\0<=aT a/\¬ 0<=aT b):=by
          by_cases ZP:c=92
          · subst ZP;by_cases h3:k+3<s.size
            · have:(k:Int)+3<s.size:=by omega
              by_cases h4:0<=aT a;{exact .inr (.inr (.inr ⟨rfl,this,h4,λh5=>m ⟨rfl,h3,h4,h5⟩⟩))};{exact .inr (.inr (.inl ⟨rfl,this,h4⟩))}
            {exact .inr (.inl ⟨rfl,by omega⟩)}
          {refine .inl ?_;have:¬ (c.toNat:Int)=92:=λe=>ZP (by rw[<-SY];show c.toNat=92;omega);simpa using this}
        clear m L;have F:=λ(h3:(k:Int)+3<s.size) V=>(show(Instr.index 9 (U s) (N I ((k:Int)+1))).run Pg V=.ok (N .u8 a.toNat) V by have:=ixS s ((k:Int)+1) (k+1) (by omega) (by omega) V;rw[ZR.out (by omega)] at this;exact this)
        have E:=λ(h3:(k:Int)+3<s.size) V=>(show(Instr.index 9 (U s) (N I ((k:Int)+2))).run Pg V=.ok (N .u8 b.toNat) V by have:=ixS s ((k:Int)+2) (k+2) (by omega) (by omega) V;rw[z.out (by omega)] at this;exact this)
        have r:=iV a;have t:=iV b;generalize aT a=x at r hn ⊢;generalize aT b=y at t hn ⊢;have ZM:=ae (u.aa ((q9 wr).alloc ly (J #[N .u8 c.toNat] 5)) ly);rcases hn with S|⟨S,D⟩|⟨S,D,p3⟩|⟨S,D,p3,p4⟩
        all_goals
          try have F:=F D
          try have E:=E D
          go_wp2_with (first
            |(go_at_call 250;(first|go_fit (r _)|go_fit (t _));rintro e q ⟨rfl,f⟩;rw[f];clear f)
            |(at_builtin;refine lp rfl (.tmp 58) (.tmp 62) rfl w.heap.size _ l rfl ZM (Q wr.heap.size 0 Y) 1 [c] rfl (gF (by simp)) (by simp only[eL,nX];omega) (by simp;omega) ?_))
          intro v' q j n;obtain⟨ZN,p,rfl,_,_⟩:=j.av (by simp);have A:=ae j;have B:Hid (Below w.heap.size w q):=(G.alloc H _).grown n (by simp;omega) (λx m=>(SF u x m).1);clear j n;go_wp2;exact⟨⟨k+1,ZN,p,l++[c],by omega,by omega,by go_num,rfl,A,(by rw[<-R.out,HN.out,OV];rfl),by simp;omega,B⟩,by simp[intOf];omega⟩
    · have i1:¬ (k:Int)+1<s.size:=by omega
      have P:Hid (l=be (bS s.data.toList)):=by show _=_;rw[<-R.out,Hg (by rw[o.out];omega)];simp[be]
      have hcv:=Eu wr _ g cap l u.out;go_wp2;go_ret;exact⟨by rw[<-P.out];rfl,G⟩
theorem Bn (w:M)(e:TypeId)(size:Nat):(w.alloc (J #[] e)).ownsRow w.heap.size e size (Z (T (Q w.heap.size 0 Y)) 0 0) 0 [] :=
 ⟨by simp,.inr ⟨w.heap.size,0,#[],rfl,n6 _,nL w _,n6 _,by unfold maxLen;omega,by simp,by simp⟩⟩
theorem o9:(Pg.info? 9).map (λi=>(i.zero,i.size,i.bytes))=T (T (U ⟨#[]⟩),1,16):=by kernel_rfl
def cK (L:List (List UInt8)):List ZC:=L.map λl=>U ⟨l.toArray⟩
theorem km (L:List (List UInt8))(l:List UInt8):cK (L++[l])=cK L++[U ⟨l.toArray⟩]:=by simp[cK]
theorem re (s:ByteArray)(f k:Nat):s.extract f k=⟨((s.data.toList.drop f).take (k - f)).toArray⟩:=by refine ON (QZ ?_);simp[PO,QE,PJ]
theorem nU (s:ByteArray)(f:Nat):s.extract f s.size=⟨(s.data.toList.drop f).toArray⟩:=by rw[re s f s.size,IU (by simp)]
theorem Jk{k:Nat}(hf:f<=k)(c:k<S.length)(b:S[k]=10):S.drop f=(S.drop f).take (k - f)++10::S.drop (k+1):=by have h1:=(PQ (k - f) (S.drop f)).symm;rw[List.drop_drop,show f+(k - f)=k by omega,RB c,b] at h1;exact h1
theorem Hi{k:Nat}(hf:f<=k)(hk:k<S.length)(b:S[k]≠10)(hn:(10:UInt8) ∉ (S.drop f).take (k - f)):(10:UInt8) ∉ (S.drop f).take (k+1 - f):=by
 have c:k - f<(S.drop f).length:=by rw[LK];omega
 rw[show k+1 - f=(k - f)+1 by omega,QW c];intro h;rcases p8.1 h with h|h;{exact hn h};{simp only[List.getElem_drop,nD] at h;simp only[show f+(k - f)=k by omega] at h;exact b h.symm}
theorem kQ{e:TypeId}{z:ZC}{a b:Nat}(h:(Pg.info? e).map (λi=>(i.zero,i.size,i.bytes))=T (T z,a,b)):∃i,Pg.info? e=T i/\i.zero=T z/\i.size=a/\i.bytes=b:=by obtain⟨i,hi,hz⟩:=OQ.1 h;simp only[LN] at hz;exact⟨i,hi,hz⟩
theorem Bo (s:ByteArray)(w:M)(hs:s.size<=16777216):Calls Pg 199 #[U s] w λe O=>∃g cap,e=ZF (Z (T (Q g 0 Y)) (aL s.data.toList).length cap)/\O.ownsRow w.heap.size 9 1 (Z (T (Q g 0 Y)) (aL s.data.toList).length cap) (aL s.data.toList).length (cK (aL s.data.toList))/\(aL s.data.toList).length<=s.size+1/\Below w.heap.size w O:=by
 have ZN:Hid (s.data.toList.length=s.size):=by show _=_;simp
 obtain⟨R,hi,x,C,D⟩:=kQ o9;go_enter func199,ntmps199;go_wp2;go_loopw [3,4,5] (λv p i wr=>∃(k f g cap:Nat) (L:List (List UInt8)),f<=k/\k<=s.size/\i=N I k/\p=N I f/\v=Z (T (Q g 0 Y)) L.length cap/\Hid (wr.ownsRow w.heap.size 9 1 v L.length (cK L))/\Hid (aL s.data.toList=L++aL (s.data.toList.drop f))/\Hid ((10:UInt8) ∉ (s.data.toList.drop f).take (k - f))/\L.length<=k/\Hid (Below w.heap.size w wr)) (λ_ _ i _=>s.size - (intOf i).toNat);case atStart=>exact⟨0,0,w.heap.size,0,[],by omega,by omega,rfl,rfl,rfl,Bn w _ _,by simp[Hid],by simp[Hid],by simp,br.alloc ly _⟩
 case round =>
  obtain⟨k,f,g,cap,L,E,hks,rfl,rfl,rfl,r,ZQ,ZO,hLk,t⟩:=hrel;have y:w.heap.size<=wr.heap.size:=t.size;have c1:(0:Int)<=f:=by omega
  have c2:(f:Int)<=k:=by omega
  have c3:(k:Int)<=s.size:=by omega
  have c4:(f:Int)<=s.size:=by omega
  by_cases z:k<s.size
  ·have S:(k:Int)<s.size:=by omega
   have A:k<s.data.toList.length:=by rw[ZN.out];exact z
   have H:=λV=>ixS s (k:Int) k rfl z V;have F:=ae (λh=>Jk E A h);have u:=ae (λh=>Hi E A h ZO);generalize s.data.toList[k]=c at H F u;by_cases q:c=10;{subst q;have H:∀V,(Instr.index 9 (U s) (N I (k:Int))).run Pg V=.ok (N .u8 10) V:=H;have P:=ae (F rfl);have ZP:=ae (re s f k);go_wp2_with (at_builtin;refine BS _ rfl (.tmp 17) (.tmp 22) 30 rfl w.heap.size 9 R (U ⟨#[]⟩) 1 16 IB hi x C D rfl (by decide) _ L.length (cK L) (by simp[Act.eval]) (r.alloc _) (Q wr.heap.size 0 Y) 1 1 [U (s.extract f k)] (by simp[Act.eval]) rfl (cu wr _ _) (by simp[Value.oneCell']) (by unfold maxLen;omega) (by omega) (by simp;omega) ?_;intro ZL ZM b l m;obtain⟨ZR,n,rfl⟩:=dr b (by omega);have K:=ae b;have G:=ae (bg (t.alloc y (J #[U (s.extract f k)] 9)) l (by simp;omega) (λj e=>(r.lt j e).1));clear b l m);refine⟨⟨k+1,k+1,ZR,n,L++[(s.data.toList.drop f).take (k - f)],by omega,by omega,by go_num,by go_num,by simp,?_,?_,by simp[Hid],by simp;omega,G⟩,by simp[intOf];omega⟩;{show World.ownsRow _ _ _ _ _ _ _;rw[km,<-ZP.out];simp only[cM,eL,nX,FM];exact K};{show _=_;rw[ZQ.out,P.out,kj _ ZO.out];rw[<-P.out];simp}};{have hne:((c.toNat:Int) == 10)=ZA:=(by have:¬ (c.toNat:Int)=10:=λe=>q (by rw[<-SY];show c.toNat=10;omega);simpa using this);go_wp2;exact⟨⟨k+1,f,g,cap,L,by omega,by omega,by go_num,rfl,rfl,r,ZQ,u q,by omega,t⟩,by simp[intOf];omega⟩}
  ·obtain rfl:k=s.size:=by omega
   have ZP:=ae (nU s f);have B:Hid (aL s.data.toList=L++[s.data.toList.drop f]):=by show _=_;have:=ZO.out;rw[IU (by rw[LK,ZN.out];omega)] at this;rw[ZQ.out,mW this]
   have S:¬ ((s.size:Nat):Int)<s.size:=by omega
   go_wp2_with (at_builtin;refine BS _ rfl (.tmp 26) (.tmp 30) 30 rfl w.heap.size 9 R (U ⟨#[]⟩) 1 16 IB hi x C D rfl (by decide) _ L.length (cK L) (by simp[Act.eval]) (r.alloc _) (Q wr.heap.size 0 Y) 1 1 [U (s.extract f s.size)] (by simp[Act.eval]) rfl (cu wr _ _) (by simp[Value.oneCell']) (by unfold maxLen;omega) (by omega) (by simp;omega) ?_;intro ZL ZM b l m;obtain⟨ZR,n,rfl⟩:=dr b (by omega);have K:=ae b;have G:=ae (bg (t.alloc y (J #[U (s.extract f s.size)] 9)) l (by simp;omega) (λj e=>(r.lt j e).1));clear b l m);go_ret;have o:(aL s.data.toList).length=L.length+1:=by rw[B.out];simp
   refine⟨ZR,n,by rw[o];rfl,?_,by omega,G⟩;rw[o,B.out,km,<-ZP.out];exact K
def tZ:Ins:=⟨0,⟨#[]⟩,0⟩
def jU:Link:=⟨⟨#[]⟩,ZA,ZA,0⟩
def Deed.doA (d:Deed)(x:Ins):Deed:={ d with f:=d.f+1,H:=λj=>if j=d.f then x else d.H j }
def Deed.lkA (d:Deed)(l:Link):Deed:={ d with b:=d.b+1,D:=λj=>if j=d.b then l else d.D j }
def aV (name:ByteArray)(kind code:Int)(text:ByteArray):Deed:={ e:=name,m:=kind,E:=code,B:=text,f:=0,H:=λ_=>tZ,b:=0,D:=λ_=>jU }
def norm (d:Deed):Deed:={ d with H:=λj=>if j<d.f then d.H j else tZ,D:=λj=>if j<d.b then d.D j else jU }
def Good (X:List Deed)(ZK:List UInt8)(ZJ:List Deed):Prop :=
 (∃(D:List Deed) (n:Nat),X=D/\ZK=([97,99,99,111,117,110,116,32]++Lib.decDigits n)/\ZJ=D) ∨
 (∃(D:List Deed),X=D/\ZK=[101,110,100]/\ZJ=D) ∨
 (∃(D:List Deed) (d:Deed),(32:UInt8) ∉ d.e.data.toList/\X=D/\ZK=(iG d)/\ZJ=(D++[aV d.e 1 0 d.B])) ∨
 (∃(D:List Deed) (d:Deed),(32:UInt8) ∉ d.e.data.toList/\X=D/\ZK=(fU d)/\ZJ=(D++[aV d.e 2 0 ⟨#[]⟩])) ∨
 (∃(D:List Deed) (d:Deed),(32:UInt8) ∉ d.e.data.toList/\0<=d.E/\d.E<=5/\X=D/\ZK=(eF d)/\ZJ=(D++[aV d.e 3 d.E d.B])) ∨
 (∃(D:List Deed) (d:Deed) (x:Ins),aH x.op x.s.size x.n=ZG/\X=(D++[d])/\ZK=(doT x)/\ZJ=(D++[d.doA x])) ∨
 (∃(D:List Deed) (d:Deed) (l:Link),(32:UInt8) ∉ l.e.data.toList/\0<=l.L/\l.L<=400/\((l.ask=ZG->l.has=ZA))/\((l.ask=ZA->l.L=0))/\X=(D++[d])/\ZK=(dI l)/\ZJ=(D++[d.lkA l]))
theorem Good.acc (D:List Deed)(n:Nat):Good D ([97,99,99,111,117,110,116,32]++Lib.decDigits n) D:=.inl ⟨D,n,rfl,rfl,rfl⟩
theorem Good.fin (D:List Deed):Good D [101,110,100] D:=.inr (.inl ⟨D,rfl,rfl,rfl⟩)
theorem Good.src (D:List Deed)(d:Deed)(b:(32:UInt8) ∉ d.e.data.toList):Good D (iG d) (D++[aV d.e 1 0 d.B]):=.inr (.inr (.inl ⟨D,d,b,rfl,rfl,rfl⟩))
theorem Good.non (D:List Deed)(d:Deed)(b:(32:UInt8) ∉ d.e.data.toList):Good D (fU d) (D++[aV d.e 2 0 ⟨#[]⟩]):=.inr (.inr (.inr (.inl ⟨D,d,b,rfl,rfl,rfl⟩)))
theorem Good.R (D:List Deed)(d:Deed)(b:(32:UInt8) ∉ d.e.data.toList)(h1:0<=d.E)(h2:d.E<=5):Good D (eF d) (D++[aV d.e 3 d.E d.B]):=.inr (.inr (.inr (.inr (.inl ⟨D,d,b,h1,h2,rfl,rfl,rfl⟩))))
theorem Good.H (D:List Deed)(d:Deed)(x:Ins)(b:aH x.op x.s.size x.n=ZG):Good (D++[d]) (doT x) (D++[d.doA x]):=.inr (.inr (.inr (.inr (.inr (.inl ⟨D,d,x,b,rfl,rfl,rfl⟩)))))
theorem Good.V (D:List Deed)(d:Deed)(l:Link)(b:(32:UInt8) ∉ l.e.data.toList)(h1:0<=l.L)(h2:l.L<=400)(h3:(l.ask=ZG->l.has=ZA))(h4:(l.ask=ZA->l.L=0)):Good (D++[d]) (dI l) (D++[d.lkA l]):=.inr (.inr (.inr (.inr (.inr (.inr ⟨D,d,l,b,h1,h2,h3,h4,rfl,rfl,rfl⟩)))))
def bB:List Deed->List (List UInt8)->List Deed->Prop
 |D,[],E=>D=E
 |D,l::ls,E=>∃G,Good D l G/\bB G ls E
theorem fF:∀{a b:List (List UInt8)} {D E F:List Deed},bB D a E->bB E b F->bB D (a++b) F
 |[],_,_,_,_,h,k=>by rw[show _=_ from h];exact k
 |_::_,_,_,_,_,⟨G,h1,h2⟩,k=>⟨G,h1,fF h2 k⟩
theorem fZ{D E:List Deed}(h:Good D l E):bB D [l] E:=⟨E,h,rfl⟩
def uA (g:Nat->Ins)(n:Nat):List (List UInt8):=(List.range n).map λk=>doT (g k)
def uB (g:Nat->Link)(n:Nat):List (List UInt8):=(List.range n).map λk=>dI (g k)
def ie (d:Deed):List (List UInt8):=if d.m=1 then [iG d] else if d.m=2 then [fU d] else eF d::(uA d.H d.f++uB d.D d.b++[[101,110,100]])
def uC (f:Nat->Deed)(n:Nat):List (List UInt8):=([97,99,99,111,117,110,116,32]++Lib.decDigits n)::(List.range n).flatMap λp=>ie (f p)
def fL (b:List (List UInt8)):List UInt8:=b.flatMap λl=>l++[10]
theorem iH (a b:List (List UInt8)):fL (a++b)=fL a++fL b:=by simp[fL]
theorem xW (g:Nat->Ins):∀n,fL (uA g n)=ft g n
 |0=>rfl
 |n+1=>by have b:=xW g n;unfold uA at b ⊢;rw[PD,DN,iH,b,ft];simp[fL]
theorem xX (g:Nat->Link):∀n,fL (uB g n)=ef g n
 |0=>rfl
 |n+1=>by have b:=xX g n;unfold uB at b ⊢;rw[PD,DN,iH,b,ef];simp[fL]
theorem Bp (d:Deed):fL (ie d)=dJ d:=by
 unfold ie dJ;split;{simp[fL]};{split;{simp[fL]};{rw[show ∀(x:List UInt8) (l:List (List UInt8)),x::l=[x]++l from λ_ _=>rfl,iH,iH,iH,xW,xX,mZ];simp[fL]}}
theorem sw (f:Nat->Deed)(n:Nat):∀k,fL (([97,99,99,111,117,110,116,32]++Lib.decDigits n)::(List.range k).flatMap λp=>ie (f p))=aN f n k
 |0=>by simp[fL,aN]
 |k+1=>by have b:=sw f n k;rw[PD,BO,<-IN,iH,b,aN];simp[Bp]
def fV (d:Deed)(k:Nat):Deed:={ aV d.e 3 d.E d.B with f:=k,H:=λj=>if j<k then d.H j else tZ }
def ig (d:Deed)(k:Nat):Deed:={ fV d d.f with b:=k,D:=λj=>if j<k then d.D j else jU }
theorem zp (d:Deed)(k:Nat):(fV d k).doA (d.H k)=fV d (k+1):=by
 unfold Deed.doA fV;simp only[Deed.mk.injEq,TM,and_true];funext j;by_cases h:j=k;{subst h;simp};{simp only[gM h];by_cases h2:j<k;{rw[p6 h2,p6 (by omega)]};{rw[gM h2,gM (by omega)]}}
theorem zq (d:Deed)(k:Nat):(ig d k).lkA (d.D k)=ig d (k+1):=by
 unfold Deed.lkA ig;simp only[Deed.mk.injEq,TM];funext j;by_cases h:j=k;{subst h;simp};{simp only[gM h];by_cases h2:j<k;{rw[p6 h2,p6 (by omega)]};{rw[gM h2,gM (by omega)]}}
theorem xY {d:Deed}(D:List Deed)(h:dD d.H d.f=ZG):∀k,k<=d.f->bB (D++[fV d 0]) (uA d.H k) (D++[fV d k])
 |0,_=>rfl
 |k+1,hk=>by
  have b:=xY D h k (by omega);have g:Good (D++[fV d k]) (doT (d.H k)) (D++[fV d (k+1)]):=by rw[<-zp];exact Good.H D _ _ (gR h (by omega))
  unfold uA at b ⊢;rw[PD,DN];exact fF b (fZ g)
theorem pX (h:aw s=ZG):∀c∈s.data.toList,33<=c.toNat/\c.toNat<=126:=by
 unfold aw at h;rw[zA] at h;intro c f;obtain⟨k,b,rfl⟩:=US f;have hk':k<s.size:=by simpa using b
 have h2:=oq (show k+1<=s.size by omega) h.2;rw[dL,zA] at h2;have h3:=h2.2;rw[UM (by simpa using b)] at h3;simpa using h3
theorem ko (h:aw s=ZG):(32:UInt8) ∉ s.data.toList:=λb=>by have:=(pX h 32 b).1;have e:(32:UInt8).toNat=32:=rfl;omega
theorem sA (h:aw s=ZG):(10:UInt8) ∉ s.data.toList:=λb=>by have:=(pX h 10 b).1;have e:(10:UInt8).toNat=10:=rfl;omega
theorem xZ {f:Nat->Deed}{p:Nat}{d:Deed}(D:List Deed)(j:p<=400)(h:bN f p d d.b=ZG):∀k,k<=d.b->bB (D++[ig d 0]) (uB d.D k) (D++[ig d k])
 |0,_=>rfl
 |k+1,hk=>by
  have i:=xZ D j h k (by omega);have b:=fS h k (by omega);have hz:=iU b;unfold ew at b;rw[zA] at b;have g:Good (D++[ig d k]) (dI (d.D k)) (D++[ig d (k+1)]):=by
   rw[<-zq];refine Good.V D _ _ (ko b.1) hz.2.1 (by omega) (λc=>?_) λc=>?_
   ·have h2:=b.2
    rw[p6 c] at h2;simp only[zA] at h2;simpa using h2.1.1.1
   ·have h2:=b.2
    rw[gM (by simp[c])] at h2;simpa using h2
  unfold uB at i ⊢;rw[PD,DN];exact fF i (fZ g)
theorem x9{d:Deed}(c:d.f=0)(b:d.b=0):norm d=aV d.e d.m d.E d.B:=by unfold norm aV;simp only[Deed.mk.injEq,TM];exact⟨c,by funext j;rw[gM (by omega)],b,by funext j;rw[gM (by omega)]⟩
theorem zu (h:s.size=0):s=⟨#[]⟩:=by
 refine ON (QZ ?_);have:s.data.toList.length=0:=by simpa using h
 exact PT.1 this
theorem Bq{f:Nat->Deed}(h:de f n=ZG)(r:p<n)(D:List Deed):bB D (ie (f p)) (D++[norm (f p)]):=by
 have hn:=fT h;have h1:=fR hn.2.2 p r;simp only[bi,zA,kindOk,z8] at h1;obtain⟨⟨c,_⟩,h2⟩:=h1;unfold ie;split at h2;{rename_i b;simp only[aY,zA,z8] at h2;rw[p6 b,x9 h2.1.2 h2.2,b,h2.1.1];exact fZ (Good.src D _ (ko c))}
 ·rename_i i;rw[gM i];split at h2;{rename_i b;simp only[aY,zA,z8] at h2;rw[p6 b,x9 h2.1.1.2 h2.1.2,b,h2.1.1.1,zu h2.2];exact fZ (Good.non D _ (ko c))}
  ·rename_i l;rw[gM l];split at h2
   ·rename_i b;simp only[cH,zA,z8] at h2;obtain⟨⟨⟨⟨a1,x⟩,u⟩,a4⟩,s⟩:=h2;obtain⟨o,b2,b3⟩:=bP u;have m:aV (f p).e 3 (f p).E (f p).B=fV (f p) 0:=by unfold fV aV;simp
    have q:fV (f p) (f p).f=ig (f p) 0:=by unfold ig fV aV;simp
    have t:ig (f p) (f p).b=norm (f p):=by unfold ig fV aV norm;simp[b]
    refine⟨_,Good.R D _ (ko c) a1 x,?_⟩;rw[m];have g:=xY D o _ ly;rw[q] at g;have j:=xZ D (by omega) s _ ly;rw[t] at j;exact fF (fF g j) (fZ (Good.fin _))
   {cases h2}
theorem Br{f:Nat->Deed}(h:de f n=ZG):bB [] (uC f n) ((List.range n).map λp=>norm (f p)):=by
 refine⟨[],Good.acc [] n,?_⟩;have b:∀k,k<=n->bB [] ((List.range k).flatMap λp=>ie (f p)) ((List.range k).map λp=>norm (f p)):=by
  intro k;induction k with
  |zero=>intro _;rfl
  |succ k c =>intro hk;rw[PD,BO,DN];refine fF (c (by omega)) ?_;simpa using Bq h (show k<n by omega) _
 exact b n ly
def tL:List (List UInt8)->List (List UInt8)
 |[]=>[]
 |[l]=>if l=[] then [] else [l]
 |l::b::ls=>l::tL (b::ls)
theorem Hj{b:List (List UInt8)}(h:b≠[]):tL (l::b)=l::tL b:=by obtain⟨l',ls',rfl⟩:=UA h;rfl
theorem Hk (h:l≠[]):tL [l]=[l]:=gM h
theorem Bt:∀b:List (List UInt8),tL (b++[[]])=b
 |[]=>rfl
 |l::b=>by rw[IN,Hj (by simp),Bt b]
theorem pY:∀{ls:List (List UInt8)},(∀l∈ls,(10:UInt8) ∉ l)->aL (fL ls)=ls++[[]]
 |[],_=>rfl
 |l::ls,h=>by have b:=pY (ls:=ls) λx c=>h x (by simp[c]);show aL (l++[10]++fL ls)=_;rw[OV,List.singleton_append,kj _ (h l (by simp)),b];rfl
theorem pZ (t:List UInt8):(10:UInt8) ∉ aF t:=by
 rw[dy];intro b;simp only[AT,p8,P9,nj,RC] at b;rcases b with (b|⟨c,_,b⟩)|b;{exact absurd b (by decide)};{exact ux c b};{exact absurd b (by decide)}
theorem cS{a b:List UInt8}(c:(10:UInt8) ∉ a)(hb:(10:UInt8) ∉ b):(10:UInt8) ∉ a++b:=λh=>(p8.1 h).elim c hb
theorem wX{f:Nat->Deed}(h:de f n=ZG)(q:p<n):∀l∈ie (f p),(10:UInt8) ∉ l:=by
 have hn:=fT h;have h1:=fR hn.2.2 p q;simp only[bi,zA,kindOk,z8] at h1;obtain⟨⟨j,_⟩,h2⟩:=h1;have g:=sA j;intro l b;unfold ie at b;split at b;{rw[nD.1 b];exact cS (cS (cS (by decide) g) (by decide)) (pZ _)};{rename_i o;split at b;{rw[nD.1 b];exact cS (by decide) g};{rename_i t;rw[gM o,gM t] at h2;split at h2;{simp only[cH,zA,z8] at h2;obtain⟨⟨⟨⟨a1,a2⟩,u⟩,a4⟩,r⟩:=h2;obtain⟨m,b2,b3⟩:=bP u;rcases AT.1 b with b|b;{rw[b];exact cS (cS (cS (cS (cS (by decide) g) (by decide)) (lX _)) (by decide)) (pZ _)};{rcases p8.1 b with b|b;{rcases p8.1 b with b|b;{obtain⟨k,i,rfl⟩:=QX.1 b;have ok:=gR m (PL.1 i);refine cS (by decide) ?_;exact Bf (s:=((f p).H k).s.data.toList) (by simpa using ok)};{obtain⟨k,i,rfl⟩:=QX.1 b;have lk:=fS r k (PL.1 i);unfold ew at lk;rw[zA] at lk;have c:=sA lk.1;unfold dI;split;{exact cS (cS (cS (by decide) c) (by decide)) (lX _)};{refine cS (cS (cS (by decide) c) (by decide)) ?_;split<;>decide}}};{rw[nD.1 b];decide}}};{cases h2}}}
theorem wY{f:Nat->Deed}(h:de f n=ZG):∀l∈uC f n,(10:UInt8) ∉ l:=by
 intro l b;rcases AT.1 b with b|b;{rw[b];exact cS (by decide) (lX _)};{obtain⟨p,c,b⟩:=P9.1 b;exact wX h (PL.1 c) l b}
theorem sB{f:Nat->Deed}(h:de f n=ZG):bB [] (tL (aL (aN f n n))) ((List.range n).map λp=>norm (f p)):=by have e:fL (uC f n)=aN f n n:=sw f n n;rw[<-e,pY (wY h),Bt];exact Br h
structure FtR (k:Nat)(d:Deed):Prop where
 a:d.f<=k
 l:d.b<=k
 n:d.e.size<=300000
 t:d.B.size<=300000
 x:∀j,j<d.f->(d.H j).s.size<=300000
 y:∀j,j<d.b->(d.D j).e.size<=300000
def SzD (k:Nat)(D:List Deed):Prop:=D.length<=k/\∀d∈D,FtR k d
theorem FtR.up{k:Nat}{d:Deed}(h:FtR k d)(b:k<=m):FtR m d:=⟨p7 h.a b,p7 h.l b,h.n,h.t,h.x,h.y⟩
theorem SzD.up{k:Nat}{D:List Deed}(h:SzD k D)(b:k<=m):SzD m D:=⟨p7 h.1 b,λd c=>(h.2 d c).up b⟩
theorem SzD.nil (k:Nat):SzD k []:=⟨E4 _,λd b=>by cases b⟩
theorem SzD.new{k:Nat}{D:List Deed}(h:SzD k D)(name:ByteArray)(kind code:Int)(text:ByteArray)(hn:name.size<=300000)(f:text.size<=300000):SzD (k+1) (D++[aV name kind code text]):=by
 refine⟨by rw[cM];exact VU h.1,λd b=>?_⟩;rcases p8.1 b with b|b;{exact(h.2 d b).up (F6 _)};{rw[nD.1 b];exact⟨E4 _,E4 _,hn,f,λj c=>absurd c (PS _),λj c=>absurd c (PS _)⟩}
theorem SzD.doA{k:Nat}{D:List Deed}{d:Deed}(h:SzD k (D++[d]))(x:Ins)(f:x.s.size<=300000):SzD (k+1) (D++[d.doA x]):=by
 have b:=h.2 d (by simp);refine⟨by have:=h.1;simp at this ⊢;omega,λe c=>?_⟩;rcases p8.1 c with c|c;{exact(h.2 e (by simp[c])).up (F6 _)};{rw[nD.1 c];refine⟨VU b.a,Nat.le_succ_of_le b.l,b.n,b.t,λj g=>?_,b.y⟩;show(if j=d.f then x else d.H j).s.size<=300000;split;{exact f};{have hj':j<d.f+1:=g;exact b.x j (by omega)}}
theorem SzD.lkA{k:Nat}{D:List Deed}{d:Deed}(h:SzD k (D++[d]))(x:Link)(f:x.e.size<=300000):SzD (k+1) (D++[d.lkA x]):=by
 have b:=h.2 d (by simp);refine⟨by have:=h.1;simp at this ⊢;omega,λe c=>?_⟩;rcases p8.1 c with c|c;{exact(h.2 e (by simp[c])).up (F6 _)};{rw[nD.1 c];refine⟨Nat.le_succ_of_le b.a,VU b.l,b.n,b.t,b.x,λj g=>?_⟩;show(if j=d.b then x else d.D j).e.size<=300000;split;{exact f};{have hj':j<d.b+1:=g;exact b.y j (by omega)}}
theorem oA{f:Nat->Deed}(h:bG f n=S)(b:S≠[]):de f n=ZG/\aN f n n=S:=by
 unfold bG at h;split at h;{rename_i h1;split at h;{exact⟨h1,h⟩};{exact absurd h.symm b}};{exact absurd h.symm b}
def nrm (f:Nat->Deed)(n:Nat):List Deed:=(List.range n).map λp=>norm (f p)
def jp (S:List UInt8)(r:Option (List Deed)):Prop :=
 (∀D,r=T D->∃f n,bG f n=S/\S≠[]/\D=nrm f n)/\∀f n,bG f n=S->S≠[]->r=T (nrm f n)
theorem Ev{r b:Option (List Deed)}(h:jp S r)(c:jp S b):r=b:=by
 cases r with
 |some D =>obtain⟨f,n,h1,h2,h3⟩:=h.1 D rfl;rw[c.2 _ _ h1 h2,h3]
 |none =>
  cases b with
  |none=>rfl
  |some D =>obtain⟨f,n,h1,h2,h3⟩:=c.1 D rfl;have:=h.2 _ _ h1 h2;cases this
theorem gL (h:∀f n,bG f n=S->S=[]):jp S Y :=
 ⟨λD e=>(by cases e),λf n h1 h2=>absurd (h f n h1) h2⟩
theorem sC{f:Nat->Deed}(h:bG f n=S)(c:S≠[])(b:∀E,bB [] (tL (aL S)) E->nrm f n=E):jp S (T (nrm f n)):=by refine⟨λD e=>⟨f,n,h,c,(BC e).symm⟩,λf' n' h1 h2=>?_⟩;obtain⟨ok,e⟩:=oA h1 h2;have g:=sB ok;rw[e] at g;rw[b _ g];rfl
theorem nf{f:Nat->Deed}(h:bG f n=S)(b:S≠[]):bB [] (tL (aL S)) (nrm f n):=by obtain⟨ok,e⟩:=oA h b;have g:=sB ok;rw[e] at g;exact g
theorem lY{f:Nat->Deed}(h:bG f n=S):S.length<=300000:=by
 unfold bG at h;split at h;{split at h;{rw[<-h];assumption};{rw[<-h];simp}};{rw[<-h];simp}
theorem lv (f:Nat->Deed)(n:Nat):(nrm f n).length=n:=by simp[nrm]
theorem Bu (f:Nat->Deed)(hi:i<n):dF (nrm f n) i=norm (f i):=by unfold dF nrm;simp[hi]
theorem qb{w:M}{a:Option Addr}{f:Nat->Deed}(h:SlDeed w a n (dF (nrm f n))):SlDeed w a n f:=by
 rcases h with h|⟨b,off,e,r,x⟩
 {exact .inl h}
 ·refine .inr ⟨b,off,e,r,λi hi=>?_⟩;have h1:=x i hi;rw[Bu f hi] at h1;obtain⟨q,o,s,t,⟨a0,c0,u,r0⟩,⟨a1,c1,p,r1⟩⟩:=h1;refine⟨q,o,s,t,⟨a0,c0,u,?_⟩,⟨a1,c1,p,?_⟩⟩
  ·rcases r0 with r0|⟨b0,o0,g,m,l⟩
   {exact .inl r0};{refine .inr ⟨b0,o0,g,m,λj c=>?_⟩;have:=l j c;rw[show(norm (f i)).H j=(f i).H j from p6 c] at this;exact this}
  ·rcases r1 with r1|⟨b0,o0,g,m,l⟩
   {exact .inl r1};{refine .inr ⟨b0,o0,g,m,λj c=>?_⟩;have:=l j c;rw[show(norm (f i)).D j=(f i).D j from p6 c] at this;exact this}
theorem nV{f:Nat->Deed}{k:Nat}(h:SzD k (nrm f n))(hk:k<=400000):∀i,i<n->cV (f i)/\fk (f i):=by
 intro i hi;have h1:=h.2 (norm (f i)) (by unfold nrm;exact QX.2 ⟨i,PL.2 hi,rfl⟩);have ha:(f i).f<=k:=h1.a;have hl:(f i).b<=k:=h1.l;have hn:(f i).e.size<=300000:=h1.n;have ht:(f i).B.size<=300000:=h1.t;refine⟨⟨by omega,by omega⟩,by unfold maxLen;omega,by unfold maxLen;omega,⟨by omega,λj b=>?_⟩,by omega,λj b=>?_⟩;{have:=h1.x j b;rw[show(norm (f i)).H j=(f i).H j from p6 b] at this;unfold maxLen;omega};{have:=h1.y j b;rw[show(norm (f i)).D j=(f i).D j from p6 b] at this;unfold maxLen;omega}
theorem Bv{D:List Deed}{k:Nat}(h:SzD k D)(hk:k<=400000):∀i,i<D.length->cV (dF D i)/\fk (dF D i):=by
 intro i hi;have e:dF D i=D[i]:=by unfold dF;simp[hi]
 have h1:=h.2 D[i] (gz hi);rw[e];have h2:=h1.a;have h3:=h1.l;have h4:=h1.n;have h5:=h1.t;refine⟨⟨by omega,by omega⟩,by unfold maxLen;omega,by unfold maxLen;omega,⟨by omega,λj b=>?_⟩,by omega,λj b=>?_⟩;{have:=h1.x j b;unfold maxLen;omega};{have:=h1.y j b;unfold maxLen;omega}
def zv (o:Option I3):ZC:=match o with
 |some i=>.tuple #[ZH #[N I i.1,U ⟨i.2.1.toArray⟩,N I i.2.2],ZD ZG]
 |none=>.tuple #[ZH #[N I 0,U ⟨#[]⟩,N I 0],ZD ZA]
theorem zx (k:Int):(word k).length<=6:=by unfold word;split<;>decide
theorem zy (s:ByteArray)(w:M)(hs:s.size<=16777216):Calls Pg 203 #[U s] w λe n=>e=ZF (zv (bF s.data.toList))/\Below w.heap.size w n:=by
 have HL:Hid (s.data.toList.length=s.size):=by show _=_;simp
 have C0:=ae (CI.new w (N I 0) (U ⟨#[]⟩) (N I 0));have B0:=ae ((q9 w).alloc ly (J #[N I 0,U ⟨#[]⟩,N I 0] 151));go_enter func203,ntmps203;go_wp2;go_loopw [4] (λi wr=>∃k:Nat,1<=k/\k<=16/\i=N I k/\Hid (∀j:Int,1<=j->j<k->∀t m,¬ ey s.data.toList j t m)/\Hid (CI wr w.heap.size (N I 0) (U ⟨#[]⟩) (N I 0))/\Hid (Below w.heap.size w wr)) (λi _=>16 - (intOf i).toNat);case atStart=>exact⟨1,by omega,by omega,rfl,λj h1 h2=>by omega,C0,B0⟩
 case round =>
  clear C0 B0;obtain⟨k,hk1,hk2,rfl,ZQ,G,HB⟩:=hrel;have L:w.heap.size<wr.heap.size:=G.lt;by_cases hlt:k<16
  ·have i15:(k:Int)<=15:=by omega
   have WD:=λV=>yK (k:Int) V;have K:Hid (eE k s.data.toList=if kind k=1/\(⟨(word k).toArray⟩:ByteArray).size<s.size then be (bS (s.data.toList.drop ((⟨(word k).toArray⟩:ByteArray).size+1))) else []):=by show _=_;unfold eE;rw[HL.out];rfl
   have ZP:Hid (eY k s.data.toList=if ¬ kind k=1/\0<kind k/\(⟨(word k).toArray⟩:ByteArray).size<s.size then bQ 0 ((s.data.toList.drop ((⟨(word k).toArray⟩:ByteArray).size+1)).take 6) else 0):=by show _=_;unfold eY;rw[HL.out];rfl
   have la:(⟨(word k).toArray⟩:ByteArray).size<=6:=zx k;have dg:=xR k;generalize (⟨(word (k:Int)).toArray⟩:ByteArray)=wd at WD K ZP la;generalize kind (k:Int)=kd at WD K ZP dg;have f:=ae (λh1 h2=>Eh (s:=s.data.toList) (k:=k) h1 h2);have C:=ae (λh=>Hc (s:=s.data.toList) (k:=k) h);have bt:=AY k s.data.toList;rw[HL.out] at bt;generalize eE (k:Int) s.data.toList=o at K f C bt;generalize eY (k:Int) s.data.toList=q at ZP f C;have O:=ae (CI.new wr (N I (k:Int)) (U ⟨#[]⟩) (N I 0));have ZM:=ae (HB.alloc (QC L) (J #[N I (k:Int),U ⟨#[]⟩,N I 0] 151));have aq:(¬ 0<kd∨(0<kd/\¬ (wd.size:Int)<s.size))∨(kd=1/\(wd.size:Int)<s.size)∨(0<kd/\(kd == 1)=ZA/\(wd.size:Int)<s.size):=by
    by_cases h1:0<kd;{by_cases h2:(wd.size:Int)<s.size;{by_cases h3:kd=1;{exact .inr (.inl ⟨h3,h2⟩)};{exact .inr (.inr ⟨h1,by simpa using h3,h2⟩)}};{exact .inl (.inr ⟨h1,h2⟩)}};{exact .inl (.inl h1)}
   rcases aq with hc|⟨rfl,hc⟩|⟨fd,S,hc3⟩
   ·have W:o=[]:=by rw[K.out,gM (by omega)]
    have ZL:q=0:=by rw[ZP.out,gM (by omega)]
    subst W ZL;rcases hc with hc|⟨hc,hd⟩
    all_goals
     go_wp2_with (go_at_call 204;go_fit (WD _);rintro e n ⟨rfl,D⟩;rw[D];clear D);have z:=O;have F:=ae (G.aa ((q9 wr).alloc ly (J #[N I (k:Int),U ⟨#[]⟩,N I 0] 151)) L);have H:=ZM;clear O ZM;generalize wr.alloc (J #[N I (k:Int),U ⟨#[]⟩,N I 0] 151)=W4 at z F H ⊢;have R:wr.heap.size<W4.heap.size:=z.lt;have ZO:∀V,Calls Pg 145 #[ZH #[N I (k:Int),U ⟨([]:List UInt8).toArray⟩,N I (0:Int)]] V λe n=>e=ZF (ZD (aH (k:Int) ([]:List UInt8).length (0:Int)))/\Below V.heap.size V n:=λV=>iQ (k:Int) ⟨([]:List UInt8).toArray⟩ (0:Int) V (by unfold maxLen;show([]:List UInt8).length<=_;simp);have r:aH (k:Int) ([]:List UInt8).length (0:Int)=ZG->∀V,Calls Pg 190 #[ZH #[N I (k:Int),U ⟨([]:List UInt8).toArray⟩,N I (0:Int)]] V λe n=>e=ZF (U ⟨(aR (k:Int) ([]:List UInt8) (0:Int)).toArray⟩)/\Below V.heap.size V n:=λh V=>jw (k:Int) ⟨([]:List UInt8).toArray⟩ (0:Int) V h;have b:Hid (¬ (aH (k:Int) ([]:List UInt8).length (0:Int)=ZG/\aR (k:Int) ([]:List UInt8) (0:Int)=s.data.toList)->∀j:Int,1<=j->j<((k+1:Nat):Int)->∀t m,¬ ey s.data.toList j t m):=λh j h1 h2 t m=>by
      by_cases e:j=k
      ·rw[e];exact C h t m
      ·exact ZQ j h1 (by omega) t m
     clear C ZQ;refine(ZO _).mono ?_;rintro e P ⟨rfl,l⟩;have E:=ae (H.trans (l.mono (by omega)));have y:=ae (F.aa l (by omega));have u:=ae (z.aa l R);have z2:w.heap.size<P.heap.size:=y.lt;have ZN:wr.heap.size<P.heap.size:=u.lt;clear l ZO z F H;cases hok:aH (k:Int) ([]:List UInt8).length (0:Int) with
     |false =>have x:=ae (b (λh=>by rw[hok] at h;exact absurd h.1 (by simp)));clear b f r;go_wp2;exact⟨⟨k+1,by omega,by omega,by go_num,x,y,E⟩,by simp[intOf];omega⟩
     |true =>
      have r:=r hok;have f:=ae (f hok);have b:=ae (λ(h:¬ aR (k:Int) ([]:List UInt8) (0:Int)=s.data.toList)=>b (λZK=>h ZK.2));generalize aR (k:Int) ([]:List UInt8) (0:Int)=ln at r f b;have c0:=u.c0;have c1:=u.c1;have c2:=u.c2;go_wp2_with fail;refine(r _).mono ?_;rintro e w3 ⟨rfl,g⟩;clear c0 c1 c2;have ZR:=ae (E.trans (g.mono (by omega)));have c:=ae (y.aa g z2);have I3:=ae (u.aa g ZN);have z3:w.heap.size<w3.heap.size:=c.lt;clear g r E y u;cases heq:(ln == s.toList) with
      |false =>have x:=ae (b (λh=>by rw[h,BG] at heq;simp at heq));go_wp2;exact⟨⟨k+1,by omega,by omega,by go_num,x,c,ZR⟩,by simp[intOf];omega⟩
      |true =>
       have x:=ae (f (by have:=eq_of_beq heq;rw[BG] at this;exact this));have c0:=I3.c0;have c1:=I3.c1;have c2:=I3.c2;have d0:=c.c0;have d1:=c.c1;have d2:=c.c2;have f0:=c.fz 0;have f1:=c.fz 1;have f2:=c.fz 2;go_wp2;try simp only[Exit.inBlock,Exit.then]
       refine bp (eJ rfl _ _ w.heap.size _ _ _ rfl (c.all _ _ _)) rfl ?_;exact⟨by rw[x.out];rfl,((ZR.setCell (p:=(Q w.heap.size 0 Y)) ly _).setCell (p:=(Q w.heap.size 1 Y)) ly _).setCell (p:=(Q w.heap.size 2 Y)) ly _⟩
   ·have W:o=be (bS (s.data.toList.drop (wd.size+1))):=by rw[K.out,p6 ⟨rfl,by omega⟩]
    have ZL:q=0:=by rw[ZP.out,gM (λh=>h.1 rfl)]
    subst ZL;have q1:(0:Int)<=(wd.size:Int)+1:=by omega
    have q2:(wd.size:Int)+1<=s.size:=by omega
    have q3:(s.size:Int)<=9223372036854775807:=by omega
    have X:∀V,Calls Pg 201 #[U (s.extract (wd.size+1) s.size)] V λe n=>e=ZF (U ⟨o.toArray⟩)/\Below V.heap.size V n:=λV=>by have h:=jo (s.extract (wd.size+1) s.size) V (by rw[SD];omega);rw[show(s.extract (wd.size+1) s.size).data.toList=s.data.toList.drop (wd.size+1) by rw[nU],<-W] at h;exact h
    clear W;have RX:=ae (G.aa ((q9 wr).alloc ly (J #[N I (k:Int),U ⟨#[]⟩,N I 0] 151)) L);have zX:wr.heap.size<(wr.alloc (J #[N I (k:Int),U ⟨#[]⟩,N I 0] 151)).heap.size:=O.lt
    go_wp2_with (first
     |(go_at_call 204;go_fit (WD _);rintro e n ⟨rfl,D⟩;rw[D];clear D)
     |(go_at_call 201;go_fit (X _);rintro e w1 ⟨rfl,A⟩;have B:=ae (O.aa A zX);have R1:=ae (RX.aa A (by omega));have ZJ:=ae (ZM.trans (A.mono (by omega)));have c0:=B.c0;have c1:=B.c1;have c2:=B.c2;have f1:=B.fz 1;clear A))
    have z:=ae (B.set1 (U ⟨o.toArray⟩));have F:=ae (R1.other (Q wr.heap.size 1 Y) (by show wr.heap.size≠w.heap.size;omega) (U ⟨o.toArray⟩));have H:=ae (ZJ.setCell (p:=(Q wr.heap.size 1 Y)) (QC L) (U ⟨o.toArray⟩));clear c0 c1 c2 f1 B R1 ZJ O ZM RX X;generalize w1.setCell (Q wr.heap.size 1 Y) (U ⟨o.toArray⟩)=W4 at z F H ⊢;have R:wr.heap.size<W4.heap.size:=z.lt;have ZO:∀V,Calls Pg 145 #[ZH #[N I (k:Int),U ⟨o.toArray⟩,N I (0:Int)]] V λe n=>e=ZF (ZD (aH (k:Int) o.length (0:Int)))/\Below V.heap.size V n:=λV=>iQ (k:Int) ⟨o.toArray⟩ (0:Int) V (by unfold maxLen;show o.length<=_;omega);have r:aH (k:Int) o.length (0:Int)=ZG->∀V,Calls Pg 190 #[ZH #[N I (k:Int),U ⟨o.toArray⟩,N I (0:Int)]] V λe n=>e=ZF (U ⟨(aR (k:Int) o (0:Int)).toArray⟩)/\Below V.heap.size V n:=λh V=>jw (k:Int) ⟨o.toArray⟩ (0:Int) V h;have b:Hid (¬ (aH (k:Int) o.length (0:Int)=ZG/\aR (k:Int) o (0:Int)=s.data.toList)->∀j:Int,1<=j->j<((k+1:Nat):Int)->∀t m,¬ ey s.data.toList j t m):=λh j h1 h2 t m=>by
     by_cases e:j=k;{rw[e];exact C h t m};{exact ZQ j h1 (by omega) t m}
    clear C ZQ;refine(ZO _).mono ?_;rintro e P ⟨rfl,l⟩;have E:=ae (H.trans (l.mono (by omega)));have y:=ae (F.aa l (by omega));have u:=ae (z.aa l R);have z2:w.heap.size<P.heap.size:=y.lt;have ZN:wr.heap.size<P.heap.size:=u.lt;clear l ZO z F H;cases hok:aH (k:Int) o.length (0:Int) with
    |false =>have x:=ae (b (λh=>by rw[hok] at h;exact absurd h.1 (by simp)));clear b f r;go_wp2;exact⟨⟨k+1,by omega,by omega,by go_num,x,y,E⟩,by simp[intOf];omega⟩
    |true =>
     have r:=r hok;have f:=ae (f hok);have b:=ae (λ(h:¬ aR (k:Int) o (0:Int)=s.data.toList)=>b (λZK=>h ZK.2));generalize aR (k:Int) o (0:Int)=ln at r f b;have c0:=u.c0;have c1:=u.c1;have c2:=u.c2;go_wp2_with fail;refine(r _).mono ?_;rintro e w3 ⟨rfl,g⟩;clear c0 c1 c2;have ZR:=ae (E.trans (g.mono (by omega)));have c:=ae (y.aa g z2);have I3:=ae (u.aa g ZN);have z3:w.heap.size<w3.heap.size:=c.lt;clear g r E y u;cases heq:(ln == s.toList) with
     |false =>have x:=ae (b (λh=>by rw[h,BG] at heq;simp at heq));go_wp2;exact⟨⟨k+1,by omega,by omega,by go_num,x,c,ZR⟩,by simp[intOf];omega⟩
     |true =>
      have x:=ae (f (by have:=eq_of_beq heq;rw[BG] at this;exact this));have c0:=I3.c0;have c1:=I3.c1;have c2:=I3.c2;have d0:=c.c0;have d1:=c.c1;have d2:=c.c2;have f0:=c.fz 0;have f1:=c.fz 1;have f2:=c.fz 2;go_wp2;try simp only[Exit.inBlock,Exit.then]
      refine bp (eJ rfl _ _ w.heap.size _ _ _ rfl (c.all _ _ _)) rfl ?_;exact⟨by rw[x.out];rfl,((ZR.setCell (p:=(Q w.heap.size 0 Y)) ly _).setCell (p:=(Q w.heap.size 1 Y)) ly _).setCell (p:=(Q w.heap.size 2 Y)) ly _⟩
   ·have W:o=[]:=by rw[K.out,gM (λh=>by rw[h.1] at S;simp at S)]
    have ZL:q=bQ 0 ((s.data.toList.drop (wd.size+1)).take 6):=by rw[ZP.out,p6 ⟨λh=>by rw[h] at S;simp at S,fd,by omega⟩]
    subst W;have q1:(0:Int)<=(wd.size:Int)+1:=by omega
    have q2:(wd.size:Int)+1<=s.size:=by omega
    have q3:(s.size:Int)<=9223372036854775807:=by omega
    have X:∀V,Calls Pg 202 #[U (s.extract (wd.size+1) s.size)] V λe n=>e=ZF (N I q)/\Below V.heap.size V n:=λV=>by have h:=jT (s.extract (wd.size+1) s.size) V (by rw[SD];omega);rw[show(s.extract (wd.size+1) s.size).data.toList=s.data.toList.drop (wd.size+1) by rw[nU],<-ZL] at h;refine h.mono ?_;rintro e n ⟨rfl,rfl⟩;exact⟨rfl,dB _ _⟩
    clear ZL;have RX:=ae (G.aa ((q9 wr).alloc ly (J #[N I (k:Int),U ⟨#[]⟩,N I 0] 151)) L);have zX:wr.heap.size<(wr.alloc (J #[N I (k:Int),U ⟨#[]⟩,N I 0] 151)).heap.size:=O.lt
    go_wp2_with (first
     |(go_at_call 204;go_fit (WD _);rintro e n ⟨rfl,D⟩;rw[D];clear D)
     |(go_at_call 202;go_fit (X _);rintro e w1 ⟨rfl,A⟩;have B:=ae (O.aa A zX);have R1:=ae (RX.aa A (by omega));have ZJ:=ae (ZM.trans (A.mono (by omega)));have c0:=B.c0;have c1:=B.c1;have c2:=B.c2;have f1:=B.fz 2;clear A))
    have z:=ae (B.set2 (N I q));have F:=ae (R1.other (Q wr.heap.size 2 Y) (by show wr.heap.size≠w.heap.size;omega) (N I q));have H:=ae (ZJ.setCell (p:=(Q wr.heap.size 2 Y)) (QC L) (N I q));clear c0 c1 c2 f1 B R1 ZJ O ZM RX X;generalize w1.setCell (Q wr.heap.size 2 Y) (N I q)=W4 at z F H ⊢;have R:wr.heap.size<W4.heap.size:=z.lt;have ZO:∀V,Calls Pg 145 #[ZH #[N I (k:Int),U ⟨([]:List UInt8).toArray⟩,N I q]] V λe n=>e=ZF (ZD (aH (k:Int) ([]:List UInt8).length q))/\Below V.heap.size V n:=λV=>iQ (k:Int) ⟨([]:List UInt8).toArray⟩ q V (by unfold maxLen;show([]:List UInt8).length<=_;simp);have r:aH (k:Int) ([]:List UInt8).length q=ZG->∀V,Calls Pg 190 #[ZH #[N I (k:Int),U ⟨([]:List UInt8).toArray⟩,N I q]] V λe n=>e=ZF (U ⟨(aR (k:Int) ([]:List UInt8) q).toArray⟩)/\Below V.heap.size V n:=λh V=>jw (k:Int) ⟨([]:List UInt8).toArray⟩ q V h;have b:Hid (¬ (aH (k:Int) ([]:List UInt8).length q=ZG/\aR (k:Int) ([]:List UInt8) q=s.data.toList)->∀j:Int,1<=j->j<((k+1:Nat):Int)->∀t m,¬ ey s.data.toList j t m):=λh j h1 h2 t m=>by
     by_cases e:j=k;{rw[e];exact C h t m};{exact ZQ j h1 (by omega) t m}
    clear C ZQ;refine(ZO _).mono ?_;rintro e P ⟨rfl,l⟩;have E:=ae (H.trans (l.mono (by omega)));have y:=ae (F.aa l (by omega));have u:=ae (z.aa l R);have z2:w.heap.size<P.heap.size:=y.lt;have ZN:wr.heap.size<P.heap.size:=u.lt;clear l ZO z F H;cases hok:aH (k:Int) ([]:List UInt8).length q with
    |false =>have x:=ae (b (λh=>by rw[hok] at h;exact absurd h.1 (by simp)));clear b f r;go_wp2;exact⟨⟨k+1,by omega,by omega,by go_num,x,y,E⟩,by simp[intOf];omega⟩
    |true =>
     have r:=r hok;have f:=ae (f hok);have b:=ae (λ(h:¬ aR (k:Int) ([]:List UInt8) q=s.data.toList)=>b (λZK=>h ZK.2));generalize aR (k:Int) ([]:List UInt8) q=ln at r f b;have c0:=u.c0;have c1:=u.c1;have c2:=u.c2;go_wp2_with fail;refine(r _).mono ?_;rintro e w3 ⟨rfl,g⟩;clear c0 c1 c2;have ZR:=ae (E.trans (g.mono (by omega)));have c:=ae (y.aa g z2);have I3:=ae (u.aa g ZN);have z3:w.heap.size<w3.heap.size:=c.lt;clear g r E y u;cases heq:(ln == s.toList) with
     |false =>have x:=ae (b (λh=>by rw[h,BG] at heq;simp at heq));go_wp2;exact⟨⟨k+1,by omega,by omega,by go_num,x,c,ZR⟩,by simp[intOf];omega⟩
     |true =>
      have x:=ae (f (by have:=eq_of_beq heq;rw[BG] at this;exact this));have c0:=I3.c0;have c1:=I3.c1;have c2:=I3.c2;have d0:=c.c0;have d1:=c.c1;have d2:=c.c2;have f0:=c.fz 0;have f1:=c.fz 1;have f2:=c.fz 2;go_wp2;try simp only[Exit.inBlock,Exit.then]
      refine bp (eJ rfl _ _ w.heap.size _ _ _ rfl (c.all _ _ _)) rfl ?_;exact⟨by rw[x.out];rfl,((ZR.setCell (p:=(Q w.heap.size 0 Y)) ly _).setCell (p:=(Q w.heap.size 1 Y)) ly _).setCell (p:=(Q w.heap.size 2 Y)) ly _⟩
  ·obtain rfl:k=16:=by omega
   have HR:Hid (bF s.data.toList=Y):=Ei λj h1 h2=>ZQ j h1 (by omega);have c0:=G.c0;have c1:=G.c1;have c2:=G.c2;have f0:=G.fz 0;have f1:=G.fz 1;have f2:=G.fz 2;go_wp2;try simp only[Exit.inBlock,Exit.then]
   refine bp (eJ rfl _ _ w.heap.size _ _ _ rfl (G.all _ _ _)) rfl ?_;exact⟨by rw[HR.out];rfl,((HB.setCell (p:=(Q w.heap.size 0 Y)) ly _).setCell (p:=(Q w.heap.size 1 Y)) ly _).setCell (p:=(Q w.heap.size 2 Y)) ly _⟩
