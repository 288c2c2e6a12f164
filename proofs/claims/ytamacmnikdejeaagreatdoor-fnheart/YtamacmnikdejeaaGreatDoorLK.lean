import Derived.Test.YtamacmnikdejeaaGreatDoorMD
import Derived.Test.YtamacmnikdejeaaGreatDoorMY
import Derived.Shelf.Strings.SlTrimAscii
import Derived.Lib.OthersKept
import Derived.Lib.TrimU
import Derived.Laws.Runes
import Derived.Deep.LoopGhost
import Derived.WalkMore
set_option maxRecDepth 1000000
set_option maxHeartbeats 8000000
open Option renaming none->Z,some->T
open Go renaming Value.string->U,Value.int->J,IntKind.i64->I,World->E,Ending.returned->ZF,Proofs.Tryz.prog->Pg
open Bool renaming false->ZA,true->ZD
namespace Go.Proofs.YtamacmnikdejeaaGreatDoor.Vp
open Tryz RowKit
variable {u r:List UInt8}
theorem tL{r:Int}(h:Utf8.valid r=ZD):Lib.validRune r=ZD:=by unfold Utf8.valid at h;unfold Lib.validRune;simp at *;omega
theorem tM (r:Int)(w:E)(h1:128<=r)(h2:r<=1114111)(h:Utf8.valid r=ZD)(n:¬ r=65533):Calls Pg 233 #[U ⟨#[32,10]⟩,J .i32 r] w λe q=>e=ZF (J I (-1))/\Below w.heap.size w q:=by
 obtain⟨p,o,g⟩:=encode_facts r h h1;have f:=tL h;have hne:(r == 65533)=ZA:=by simp[n]
 have hcv:∀w:E,(convert 21 9 (J .i32 r)).run Pg w=.ok (U (Utf8.encode r)) w:=λw=>run_convert_int_string w _ _ _ _ (by rw[P9];rfl) KT;generalize Utf8.encode r=ZQ at *;have hn1:((ZQ.size:Int) - 1).toNat=ZQ.size - 1:=by omega
 go_enter UC,ntmps233;go_wp2_with fail;refine(Tryz.utf8_ValidRune r _).mono ?_;rintro e w1 ⟨rfl,rfl⟩;rw[f];go_wp2_with fail;go_step3;by_cases j:ZQ.size=2
 ·have b:=g (by omega);obtain⟨⟨l⟩⟩:=ZQ;obtain⟨x,y,rfl⟩:∃x y,l=[x,y]:=by
   match l,j with
   |[x,y],_=>exact⟨x,y,rfl⟩
  have hy:128<=y.toNat:=b;have hyn:((10:Int) != (y.toNat:Int))=ZD:=by simp;omega
  clear g b p o hn1 j;have i1:∀w:E,(Instr.index 9 (U ⟨#[32,10]⟩) (J I 1)).run Pg w=.ok (J .u8 10) w:=λw=>by kernel_rfl
  have i2:∀w:E,(Instr.index 9 (U ⟨⟨[x,y]⟩⟩) (J I 1)).run Pg w=.ok (J .u8 y.toNat) w:=λw=>by kernel_rfl
  have i3:∀w:E,(Instr.slice 9 (U ⟨#[32,10]⟩) (T (J I 2)) Z Z).run Pg w=.ok (U ⟨#[]⟩) w:=λw=>by kernel_rfl
  go_wp2;go_loop [9] (λi=>i=J I 1) (λ_=>0);case atStart=>rfl
  case round =>
   subst hrel;go_wp2_with fail;go_step3;go_wp2_with fail;go_region_with fail;all_goals
    go_wp2_with fail;go_region_with (go_at_call 242;refine(Tryz.strings_IndexByte _ _ _).mono ?_;rintro e w2 ⟨rfl,m⟩;subst m);all_goals
     go_wp2;rw[T3];go_wp2;rw[T3];go_wp2;go_ret;exact⟨rfl,(by repeat (first|exact cM _ _|apply Below.drew))⟩
 ·have h4:¬ ((ZQ.size:Int) - 1<2):=by omega
  go_wp2;go_loop [9] (λi=>i=J I ((ZQ.size:Int) - 1)) (λ_=>0);case atStart=>rfl
  case round =>subst hrel;go_wp2;go_ret;exact⟨rfl,cM _ _⟩
theorem sK (w:E):Calls Pg 233 #[U ⟨#[32,10]⟩,J .i32 65533] w λe f=>e=ZF (J I (-1))/\Below w.heap.size w f:=by
 have n0:=λty=>run_next_ascii (P:=Pg) w ⟨#[32,10]⟩ 0 ty (by decide) (by decide);have n1:=λty=>run_next_ascii (P:=Pg) w ⟨#[32,10]⟩ 1 ty (by decide) (by decide);have n2:=run_next_end (P:=Pg) w ⟨#[32,10]⟩ 2;go_enter UC,ntmps233;go_wp2;go_loopg [] 2 (λg b=>∃i:Nat,i+g=2/\b=w.iter ⟨#[32,10]⟩ i);case atStart=>exact⟨0,by omega,rfl⟩
 case round =>
  obtain⟨i,hig,rfl⟩:=hrel;rcases(show i=0∨i=1∨i=2 by omega) with rfl|rfl|rfl
  ·go_wp2;go_roundg 1;case measure=>omega
   case rel=>exact⟨1,by omega,rfl⟩
  ·go_wp2;go_roundg 0;case measure=>omega
   case rel=>exact⟨2,by omega,rfl⟩
  {go_wp2;go_ret;exact⟨rfl,(cM _ w).alloc ly _⟩}
theorem zF (s:ByteArray)(pos:Nat)(hp:pos<s.size)(h:128<=(s.get! pos).toNat):128<=(Utf8.decode s pos).1/\Utf8.valid (Utf8.decode s pos).1=ZD/\pos+(Utf8.decode s pos).2<=s.size/\∀j,j<(Utf8.decode s pos).2->128<=(s.get! (pos+j)).toNat:=by
 rw[Lib.decode_at];have b0:=UInt8.toNat_lt (s.get! pos);unfold Lib.decodeN Utf8.valid;rw[eT (by omega)];repeat' split
 all_goals
  refine⟨by simp only;omega,by first|(simp;done)|(simp;omega),by simp only;omega,?_⟩;intro j b;simp only at b;rcases(show j=0∨j=1∨j=2∨j=3 by omega) with rfl|rfl|rfl|rfl;all_goals first|exact h|omega
theorem zG (s:ByteArray)(pos:Nat)(h:(s.get! pos).toNat<128):Utf8.decode s pos=((s.get! pos).toNat,1):=by rw[Lib.decode_at];unfold Lib.decodeN;rw[j6 h]
theorem wB (s:ByteArray)(i:Nat)(h:i<s.size):s.data.toList[i]?=T (s.get! i):=by rw[Lib.data_getElem? s i h];obtain⟨a⟩:=s;exact CV T (getElem!_pos a i h).symm
theorem BJ{s:ByteArray}{pos:Nat}(K:Nat)(h:Lib.NoAny s.data.toList [32,10] pos)(hK:pos+K<=s.size)(f:∀j,j<K->128<=(s.get! (pos+j)).toNat):Lib.NoAny s.data.toList [32,10] (pos+K):=by
 intro j b hjk hb;by_cases e:j<pos;{exact h j b e hb};{have h2:=f (j - pos) (by omega);rw[show pos+(j - pos)=j by omega] at h2;rw[wB s j (by omega)] at hb;obtain rfl:=IN hb;simp;refine⟨?_,?_⟩;{intro e;rw[e] at h2;simp at h2};{intro e;rw[e] at h2;simp at h2}}
theorem qB (s:ByteArray)(w:E)(h8:(s.size:Int)<=8):Calls Pg 227 #[U s,U ⟨#[32,10]⟩] w λe H=>e=ZF (J I (Lib.indexAny s.data.toList [32,10]))/\Below w.heap.size w H:=by
 have V:decide ((8:Int)<(s.size:Int))=ZA:=MX (by omega);go_enter func227,ntmps227;go_wp2_with fail;refine(Tryz.strings_shouldUseASCIISet _ _).mono ?_;rintro e b ⟨rfl,rfl⟩;rw[V];go_wp2;go_loopg [9,10] s.size (λg _ _ ZL=>∃pos:Nat,s.size<=pos+g/\ZL.heap[b.heap.size]?=T (.stringIter s pos)/\Below b.heap.size b ZL/\Lib.NoAny s.data.toList [32,10] pos/\pos<=s.size);case atStart=>exact⟨0,by omega,World.iter_heap b s 0,(cM _ b).alloc ly _,Lib.NoAny.zero _ _,by omega⟩
 case round =>
  obtain⟨pos,hpg,h,hbw,y,hps⟩:=hrel;have ZK:=ae h;have u:=ae y;have C:=ae hbw;clear hbw y;by_cases t:pos<s.size
  ·obtain⟨g,rfl⟩:∃g,gk=g+1:=⟨gk - 1,by omega⟩
   have i:∀ty,(Instr.next (.pointer (T ⟨b.heap.size,0,Z⟩)) ZD ty).run Pg wr=_:=λty=>Lib.run_next_any_at wr b.heap.size s pos ty h t;clear h;have n:=wB s pos t;obtain⟨x,r⟩:∃x,s.get! pos=x:=⟨_,rfl⟩
   by_cases ZQ:x.toNat<128
   ·have D:=zG s pos (by rw[r];exact ZQ);rw[r] at D n;rw[D] at i;have ZI:=ae n;have l:=ae (Lib.iterAt_heap wr b.heap.size s pos (pos+1) ZK);have j:=ae (Lib.below_iterAt C (k:=b.heap.size) ly s (pos+1));have m:((x.toNat:Int)).toNat.toUInt8=x:=by simp
    have f:=Lib.contains_iff_indexByte [32,10] x;clear D n r;cases hin:([32,10]:List UInt8).contains x with
    |false =>
     rw[hin] at f;have hlt:¬ ((0:Int)<=Lib.indexByte [32,10] x):=UM f.symm;have B:=ae hin;clear f hin;go_wp2_with fail;refine(Tryz.strings_IndexRune_ascii _ _ _ (by omega) (by omega)).mono ?_;rintro e ZO ⟨rfl,o⟩;rw[o,m];clear o;go_wp2;go_roundg g;case measure=>omega
     case rel=>exact⟨pos+1,by omega,l,j,u.succ ZI B,by omega⟩
    |true =>rw[hin] at f;have hge:(0:Int)<=Lib.indexByte [32,10] x:=MJ f.symm;have B:=ae hin;clear f hin;go_wp2_with fail;refine(Tryz.strings_IndexRune_ascii _ _ _ (by omega) (by omega)).mono ?_;rintro e ZO ⟨rfl,o⟩;rw[o,m];clear o;go_wp2;go_ret;exact⟨by rw[Lib.indexAny_hit u.out ZI.out B.out];rfl,j⟩
   ·obtain⟨ZJ,M,ZP,G⟩:=zF s pos t (by rw[r];omega);have ZM:=Lib.rune_le s pos;have L:=Lib.width_pos s pos;obtain⟨R,hR⟩:∃R,(Utf8.decode s pos).1=R:=⟨_,rfl⟩
    obtain⟨K,S⟩:∃K,(Utf8.decode s pos).2=K:=⟨_,rfl⟩
    rw[hR] at ZJ M ZM i;rw[S] at ZP G L i;have X:=ae (BJ K u ZP G);have l:=ae (Lib.iterAt_heap wr b.heap.size s pos (pos+K) ZK);have j:=ae (Lib.below_iterAt C (k:=b.heap.size) ly s (pos+K));have A:b.heap.size<(wr.iterAt b.heap.size s (pos+K)).heap.size:=(DN.1 l).1;clear G n r hR S;have z:∀W:E,Calls Pg 233 #[U ⟨#[32,10]⟩,J .i32 (R:Int)] W λe H=>e=ZF (J I (-1))/\Below W.heap.size W H:=by
     intro W;by_cases p:(R:Int)=65533;{rw[p];exact sK W};{exact tM _ W (by omega) (by omega) M p}
    have ZN:=ae z;clear z;go_wp2_with fail;refine(ZN _).mono ?_;rintro e ZO ⟨rfl,q⟩;have O:=ae (j.trans (q.mono (QM A)));have P:=ae ((q.block b.heap.size A).trans l);clear q;go_wp2;go_roundg g;case measure=>omega
    case rel=>exact⟨pos+K,by omega,P,O,X,by omega⟩
  ·have i:∀ty,(Instr.next (.pointer (T ⟨b.heap.size,0,Z⟩)) ZD ty).run Pg wr=_:=λty=>Lib.run_next_end_at wr b.heap.size s pos ty h t;clear h;have e:pos=s.size:=by omega
   subst e;go_wp2;go_ret;exact⟨by rw[Lib.indexAny_none (by rw[<-Lib.size_eq];exact u)];rfl,C⟩
theorem pE:∀(j:Nat) b,(([32,10]:List UInt8))[j]?=T b->b.toNat<128:=by
 intro j b h;match j with
 |0=>simp at h;subst h;decide
 |1=>simp at h;subst h;decide
 |j+2=>simp at h
theorem tN (s:ByteArray)(w:E)(f:s.size<4294967281):Calls Pg 227 #[U s,U ⟨#[32,10]⟩] w λe b=>e=ZF (J I (Lib.indexAny s.data.toList [32,10]))/\Below w.heap.size w b:=by
 by_cases h:(s.size:Int)<=8;{exact qB s w h};{refine(Tryz.strings_IndexAny_long (zero_of_info (n:=256) (by kernel_rfl)).1 s ⟨#[32,10]⟩ w (by decide) (by omega) f (by decide) pE).mono ?_;rintro e b ⟨rfl,rfl⟩;exact⟨rfl,(br.alloc ly _).alloc (by simp) _⟩}
theorem tO (s:ByteArray)(w:E):Calls Pg 226 #[U s,U ⟨#[32,10]⟩] w λe b=>e=ZF (U ⟨(Lib.trimLeftS s.data.toList [32,10]).toArray⟩)/\Below w.heap.size w b :=
 Any.strings_TrimLeft_laid lays161 (by kernel_rfl) s ⟨#[32,10]⟩ w (by decide) pE
def bE (c:UInt8):Bool:=([32,10]:List UInt8).contains c
def cj:List UInt8->Nat->List UInt8
 |l,0=>(l.dropWhile bE).takeWhile (λc=>!bE c)
 |l,n+1=>if (l.dropWhile bE).takeWhile (λc=>!bE c)=[] then [] else cj ((l.dropWhile bE).dropWhile (λc=>!bE c)) n
def fF (s:ByteArray)(n:Nat):ByteArray:=⟨(cj s.data.toList n).toArray⟩
theorem mx (l:List UInt8)(n:Nat):cj l n=match n with
 |0=>(l.dropWhile bE).takeWhile (λc=>!bE c)
 |n+1=>if (l.dropWhile bE).takeWhile (λc=>!bE c)=[] then [] else cj ((l.dropWhile bE).dropWhile (λc=>!bE c)) n:=by
 cases n<;>simp[cj]
theorem sL (l:List UInt8):(Lib.indexAny l [32,10]=-1/\l.takeWhile (λc=>!bE c)=l)∨∃k:Nat,Lib.indexAny l [32,10]=k/\k<l.length/\l.takeWhile (λc=>!bE c)=l.take k/\l.dropWhile (λc=>!bE c)=l.drop k:=by
 induction l with
 |nil=>exact .inl ⟨rfl,rfl⟩
 |cons b l g =>
  by_cases hb:bE b=ZD;{refine .inr ⟨0,?_,by simp,by simp[hb],by simp[hb]⟩;have f:([32,10]:List UInt8).contains b=ZD:=hb;rw[Lib.indexAny,j6 f];rfl}
  ·have f:¬ ([32,10]:List UInt8).contains b=ZD:=hb;rcases g with ⟨h1,h2⟩|⟨k,h1,h2,h,i⟩
   {refine .inl ⟨?_,by simp[hb,h2]⟩;rw[Lib.indexAny,eT f,h1];rfl};{refine .inr ⟨k+1,?_,by simp[h2],by simp[hb,h],by simp[hb,i]⟩;rw[Lib.indexAny,eT f,h1,eT (by simp<;>omega)];simp}
theorem eZ (l:List UInt8)(p:UInt8->Bool):(l.dropWhile p).length<=l.length:=by
 induction l with
 |nil=>simp
 |cons b l ih =>
  rw[T8];split;{simp;omega};{simp}
theorem pF (s:ByteArray)(n:Nat)(w:E)(P:s.size<=2000)(hn:n<=2000):Calls Pg 222 #[U s,J I n] w λe ZK=>e=ZF (U (fF s n))/\Below w.heap.size w ZK:=by
 go_enter func222,ntmps222;go_wp2;go_loopw [0,1] (λZM D wr=>∃(t:ByteArray) (k:Nat),ZM=U t/\D=J I k/\t.size<=2000/\k<=2000/\cj t.data.toList k=cj s.data.toList n/\Below w.heap.size w wr) (λ_ D _=>(intOf D).toNat);case atStart=>exact⟨s,n,rfl,rfl,P,hn,rfl,cM _ _⟩
 case round =>
  obtain⟨t,k,rfl,rfl,ht,hk,H,B⟩:=hrel;have m:=ae H;have ZN:=ae B;have K:=B.size;clear H B;go_wp2_with fail;refine(tO t _).mono ?_;rintro e w1 ⟨rfl,y⟩;have z:=ae (ZN.trans (y.mono K));clear y;obtain⟨ZL,A⟩:∃ZL:ByteArray,ZL=⟨(Lib.trimLeftS t.data.toList [32,10]).toArray⟩:=⟨_,rfl⟩
  rw[<-A];have o:ZL.data.toList=t.data.toList.dropWhile bE:=by rw[A];rfl
  have u:ZL.size=ZL.data.toList.length:=rfl;have hTz:ZL.size<=2000:=by have h1:=eZ t.data.toList bE;have h2:t.data.toList.length=t.size:=rfl;rw[u,o];omega
  have C:=z.size;have j:=ae o;clear A o u;go_wp2_with fail;refine(tN ZL _ (by omega)).mono ?_;rintro e w2 ⟨rfl,x⟩;have f:=ae (z.trans (x.mono C));clear x;rcases sL ZL.data.toList with ⟨hz,q⟩|⟨ZQ,hz,ZO,q,L⟩
  ·rw[hz];have h:=ae q;clear hz q;by_cases g:k=0;{subst g;go_wp2;go_ret;refine⟨fV ?_,f⟩;unfold fF;rw[<-m.out,cj,<-j.out,h.out]}
   ·have ZP:((k:Int) == 0)=ZA:=by simp[g]
    obtain⟨k,rfl⟩:∃G,k=G+1:=⟨k - 1,by omega⟩
    by_cases b:ZL.size=0
    ·have r:((ZL.size:Int) == 0)=ZD:=by simp[b]
     go_wp2;go_ret;refine⟨fV ?_,f⟩;unfold fF;rw[<-m.out,cj,<-j.out,h.out];have:ZL.data.toList=[]:=List.eq_nil_of_length_eq_zero b;rw[j6 this];rfl
    ·have r:((ZL.size:Int) == 0)=ZA:=by simp[b]
     have i:¬ ZL.data.toList=[]:=λe=>b (by show ZL.data.toList.length=0;rw[e];rfl);go_wp2
     exact⟨⟨⟨#[]⟩,k,rfl,by go_num,by decide,by omega,by
      rw[<-m.out,cj,<-j.out,h.out,eT i];congr 1;have:=List.takeWhile_append_dropWhile (p:=λc=>!bE c) (l:=ZL.data.toList);rw[h.out] at this
      simpa using this.symm,f.out⟩,by first|(simp[intOf];done)|(simp[intOf];omega)⟩
  ·rw[hz];have hE':ZQ<ZL.size:=ZO;have h:=ae q;have M:=ae L;clear hz q L ZO;have R:Hid ((ZL.extract 0 ZQ).data.toList=ZL.data.toList.take ZQ):=by show(ZL.extract 0 ZQ).data.toList=ZL.data.toList.take ZQ;simp
   have O:Hid ((ZL.extract ZQ ZL.size).data.toList=ZL.data.toList.drop ZQ):=by show(ZL.extract ZQ ZL.size).data.toList=ZL.data.toList.drop ZQ;simp only[ByteArray.data_extract,Array.toList_extract,List.extract_eq_take_drop];exact LQ (by rw[LP];exact nX _)
   by_cases g:k=0;{subst g;go_wp2;go_ret;refine⟨fV ?_,f⟩;unfold fF;rw[<-m.out,cj,<-j.out,h.out,<-R.out]}
   ·have ZP:((k:Int) == 0)=ZA:=by simp[g]
    obtain⟨k,rfl⟩:∃G,k=G+1:=⟨k - 1,by omega⟩
    by_cases b:ZQ=0;{subst b;go_wp2;go_ret;refine⟨fV ?_,f⟩;unfold fF;rw[<-m.out,cj,<-j.out,h.out];simp;rfl}
    ·have r:((ZQ:Int) == 0)=ZA:=by simp[b]
     have i:¬ ZL.data.toList.take ZQ=[]:=λe=>by
      have S:(ZL.data.toList.take ZQ).length=0:=by rw[e];rfl
      have h6:ZL.data.toList.length=ZL.size:=rfl;rw[LY] at S;omega
     go_wp2
     exact⟨⟨_,k,rfl,by go_num,by simp;omega,by omega,by
      rw[<-m.out,cj,<-j.out,h.out,eT i,M.out,O.out],f.out⟩,by first|(simp[intOf];done)|(simp[intOf];omega)⟩
theorem my (m:Nat):cj [] m=[]:=by cases m<;>simp[cj]
theorem rA{c:UInt8}{l:List UInt8}(h:bE c=ZD)(m:Nat):cj (c::l) m=cj l m:=by rw[mx,mx l];simp only[T8,h,if_true]
theorem pG (i:u≠[])(h:∀c∈u,bE c=ZA)(g:r=[]∨∃c l,r=c::l/\bE c=ZD):(u++r).dropWhile bE=u++r/\(u++r).takeWhile (λc=>!bE c)=u/\(u++r).dropWhile (λc=>!bE c)=r:=by
 obtain⟨c,u',rfl⟩:=List.exists_cons_of_ne_nil i;refine⟨?_,?_,?_⟩;{rw[MC,T8,eT (by simp[h c (by simp)])]}
 ·rw[List.takeWhile_append_of_pos (λa b=>by simp[h a b])];rcases g with rfl|⟨d,l,rfl,f⟩
  {simp};{simp[f]}
 ·rw[List.dropWhile_append_of_pos (λa b=>by simp[h a b])];rcases g with rfl|⟨d,l,rfl,f⟩
  {simp};{simp[f]}
theorem xS (f:u≠[])(h:∀c∈u,bE c=ZA)(b:r=[]∨∃c l,r=c::l/\bE c=ZD):cj (u++r) 0=u:=by obtain⟨h1,h2,h3⟩:=pG f h b;rw[cj,h1,h2]
theorem xU (b:u≠[])(h:∀c∈u,bE c=ZA)(f:r=[]∨∃c l,r=c::l/\bE c=ZD)(m:Nat):cj (u++r) (m+1)=cj r m:=by obtain⟨h1,h2,g⟩:=pG b h f;rw[cj,h1,h2,g,eT b]
theorem wD (s:ByteArray)(f i:Nat)(hf:f<i)(hi:i<=s.size)(o:∀j,(h:j<s.size)->f<=j->j<i->bE s[j]=ZA)(g:s.data.toList.drop i=[]∨∃c l,s.data.toList.drop i=c::l/\bE c=ZD):cj (s.data.toList.drop f) 0=(s.extract f i).data.toList/\∀m,cj (s.data.toList.drop f) (m+1)=cj (s.data.toList.drop i) m:=by
 have hL:s.data.toList.length=s.size:=rfl;have e:s.data.toList.drop f=(s.data.toList.drop f).take (i - f)++s.data.toList.drop i:=by
  conv=>lhs;rw[<-NU (i - f) (s.data.toList.drop f)]
  rw[List.drop_drop];congr 2;omega
 have p:(s.extract f i).data.toList=(s.data.toList.drop f).take (i - f):=by simp only[ByteArray.data_extract,Array.toList_extract,List.extract_eq_take_drop]
 have n:(s.data.toList.drop f).take (i - f)≠[]:=by
  intro e;have r:((s.data.toList.drop f).take (i - f)).length=0:=by rw[e];rfl
  rw[LY,LP] at r;omega
 have b:∀c∈(s.data.toList.drop f).take (i - f),bE c=ZA:=by intro c b;obtain⟨j,q,rfl⟩:=List.mem_iff_getElem.1 b;rw[LY,LP] at q;have:=o (f+j) (by omega) (by omega) (by omega);simp only[List.getElem_take,List.getElem_drop,Array.getElem_toList];exact this
 refine⟨?_,λm=>?_⟩
 ·rw[p];conv=>lhs;rw[e]
  exact xS n b g
 ·conv=>lhs;rw[e]
  exact xU n b g m
theorem vE (s:ByteArray)(n:Nat)(w:E)(hs:s.size<=2000)(hn:n<=2000):Calls Pg 195 #[U s,J I n] w λe ZK=>e=ZF (U (fF s n))/\Below w.heap.size w ZK:=by
  have hL:s.data.toList.length=s.size:=rfl;have p:∀i:Nat,(h:i<s.size)->s.data.toList.drop i=s[i]::s.data.toList.drop (i+1):=λi h=>List.drop_eq_getElem_cons (by rw[hL];exact h);have ZP:=ae p;have o:∀i:Nat,s.size<=i->s.data.toList.drop i=[]:=λi h=>List.drop_eq_nil_of_le (by rw[hL];exact h);have r:=ae o;clear p o;go_enter func195,ntmps195;go_wp2
  go_loopw [1,5,6] (λZL M H wr=>∃(i m:Nat),i<=s.size+1/\m<=2000/\H=J I i/\ZL=J I m/\Below w.heap.size w wr /\
      ((M=J I (-1)/\cj (s.data.toList.drop i) m=cj s.data.toList n) ∨
       ∃f:Nat,M=J I f/\f<i/\i<=s.size/\(∀j,(h:j<s.size)->f<=j->j<i->bE s[j]=ZA)/\cj (s.data.toList.drop f) m=cj s.data.toList n)) (λ_ _ H _=>s.size+1 - (intOf H).toNat)
  case atStart=>exact⟨0,n,by omega,hn,rfl,rfl,cM _ _,.inl ⟨rfl,rfl⟩⟩
  case round =>
    obtain⟨i,m,hi,C,rfl,rfl,ZN,D⟩:=hrel;have t:=ae ZN;clear ZN;by_cases hle:i<=s.size
    · by_cases R:i=s.size
      · subst R;have l:=r.out s.size ly;have ZQ:=r.out (s.size+1) (by omega);rcases D with ⟨rfl,b⟩|⟨f,rfl,y,_,q,b⟩
        {have g:=ae b;rw[l,my] at g;clear b l;go_wp2;exact⟨⟨s.size+1,m,by omega,C,by go_num,rfl,t,.inl ⟨rfl,by rw[ZQ,my];exact g⟩⟩,by first|(simp[intOf];done)|(simp[intOf];omega)⟩}
        · obtain⟨A,B⟩:=wD s f s.size y ly q (.inl l);have G:=ae A;have z:=ae B;have g:=ae b;clear q b A B;rw[l] at z;clear l;by_cases u:m=0;{subst u;rw[G.out] at g;go_wp2;go_ret;refine⟨fV ?_,t⟩;unfold fF;rw[<-g.out]}
          · have K:((m:Int) == 0)=ZA:=by simp[u]
            obtain⟨m,rfl⟩:∃ZO,m=ZO+1:=⟨m - 1,by omega⟩
            go_wp2;exact⟨⟨s.size+1,m,by omega,by omega,by go_num,by go_num,t,.inl ⟨rfl,by rw[ZQ,<-z.out];exact g⟩⟩,by first|(simp[intOf];done)|(simp[intOf];omega)⟩
      · have O:i<s.size:=by omega
        have heb:((i:Int) == (s.size:Int))=ZA:=by simp;omega
        have l:=ZP.out i O;cases hgp:bE s[i] with
        |false =>
          have L:((s[i].toNat:Int) == 32)=ZA:=by
            have:¬ s[i]=32:=λe=>by rw[e] at hgp;exact absurd hgp (by decide)
            have h2:¬ s[i].toNat=32:=λe=>this (UInt8.toNat_inj.1 e);simp;omega
          have S:((s[i].toNat:Int) == 10)=ZA:=by
            have:¬ s[i]=10:=λe=>by rw[e] at hgp;exact absurd hgp (by decide)
            have h2:¬ s[i].toNat=10:=λe=>this (UInt8.toNat_inj.1 e);simp;omega
          have x:=ae hgp;clear hgp;rcases D with ⟨rfl,b⟩|⟨f,rfl,y,_,q,b⟩
          · have g:=ae b;clear b l;go_wp2
            exact⟨⟨i+1,m,by omega,C,by go_num,rfl,t,.inr ⟨i,rfl,by omega,by omega,λj h h1 h2=>by
              obtain rfl:j=i:=by omega
              exact x,g⟩⟩,by first|(simp[intOf];done)|(simp[intOf];omega)⟩
          · have g:=ae b;have P:=ae q;clear b l q;go_wp2
            exact⟨⟨i+1,m,by omega,C,by go_num,rfl,t,.inr ⟨f,rfl,by omega,by omega,λj h h1 h2=>by
              by_cases e:j=i;{subst e;exact x}
              · exact P j h h1 (by omega),g⟩⟩,by first|(simp[intOf];done)|(simp[intOf];omega)⟩
        |true =>
          have ZM:((s[i].toNat:Int) == 32)=ZD∨(((s[i].toNat:Int) == 32)=ZA/\((s[i].toNat:Int) == 10)=ZD):=by
            have:s[i]=32∨s[i]=10:=by simpa[bE] using hgp
            rcases this with e|e;{left;rw[e];rfl};{right;rw[e];exact⟨rfl,rfl⟩}
          have x:=ae hgp;clear hgp;rcases ZM with L|⟨L,S⟩
          all_goals
            rcases D with ⟨rfl,b⟩|⟨f,rfl,y,_,q,b⟩
            · have g:=ae b
              rw[l,rA x.out] at g;clear b l;go_wp2;exact⟨⟨i+1,m,by omega,C,by go_num,rfl,t,.inl ⟨rfl,g⟩⟩,by first|(simp[intOf];done)|(simp[intOf];omega)⟩
            · obtain⟨A,B⟩:=wD s f i y (by omega) q (.inr ⟨_,_,l,x⟩)
              have G:=ae A;have z:=ae B;have g:=ae b;rw[l] at z;clear q b A B l;by_cases u:m=0
              · subst u
                rw[G.out] at g;go_wp2;go_ret;refine⟨fV ?_,t⟩;unfold fF;rw[<-g.out]
              · have K:((m:Int) == 0)=ZA:=by simp[u]
                obtain⟨m,rfl⟩:∃ZO,m=ZO+1:=⟨m - 1,by omega⟩
                rw[z.out,rA x.out] at g;go_wp2;exact⟨⟨i+1,m,by omega,by omega,by go_num,by go_num,t,.inl ⟨rfl,g⟩⟩,by first|(simp[intOf];done)|(simp[intOf];omega)⟩
    · obtain rfl:i=s.size+1:=by omega
      rcases D with ⟨rfl,b⟩|⟨f,rfl,y,hz,q,b⟩
      {have g:=ae b;rw[r.out _ (by omega),my] at g;clear b;go_wp2;go_ret;refine⟨fV ?_,t⟩;unfold fF;rw[<-g.out]};{omega}
