import Derived.Test.YtpmnbjkjpnclaaaGreatDoorME
import Derived.Test.YtpmnbjkjpnclaaaGreatDoorLI
import Derived.Shelf.Strings.SlTrimAscii
import Derived.Lib.OthersKept
import Derived.Lib.TrimU
import Derived.Laws.Runes
import Derived.Deep.LoopGhost
import Derived.WalkMore
set_option maxRecDepth 1000000
set_option maxHeartbeats 8000000
open Option renaming none->Z,some->T
open Go renaming Value.string->U,Value.int->Q,IntKind.i64->I,World->M,Ending.returned->ZD,Proofs.Tryz.prog->Pg
open Bool renaming false->ZA,true->ZF
namespace Go.Proofs.YtpmnbjkjpnclaaaGreatDoor.Vp
open Tryz RowKit
variable {u r:List UInt8}
theorem rW{r:Int}(h:Utf8.valid r=ZF):Lib.validRune r=ZF:=by unfold Utf8.valid at h;unfold Lib.validRune;simp at *;omega
theorem rX (r:Int)(w:M)(h1:128<=r)(h2:r<=1114111)(h:Utf8.valid r=ZF)(n:¬ r=65533):Calls Pg 331 #[U ⟨#[32,10]⟩,Q .i32 r] w λe p=>e=ZD (Q I (-1))/\Below w.heap.size w p:=by
 obtain⟨o,q,m⟩:=encode_facts r h h1;have j:=rW h;have hne:(r == 65533)=ZA:=by simp[n]
 have hcv:∀w:M,(convert 21 9 (Q .i32 r)).run Pg w=.ok (U (Utf8.encode r)) w:=λw=>run_convert_int_string w _ _ _ _ (by rw[NV];rfl) IN;generalize Utf8.encode r=E at *;have hn1:((E.size:Int) - 1).toNat=E.size - 1:=by omega
 go_enter SS,ntmps331;go_wp2_with fail;refine(Tryz.utf8_ValidRune r _).mono ?_;rintro e w1 ⟨rfl,rfl⟩;rw[j];go_wp2_with fail;go_step3;by_cases g:E.size=2
 ·have b:=m (by omega);obtain⟨⟨l⟩⟩:=E;obtain⟨x,y,rfl⟩:∃x y,l=[x,y]:=by
   match l,g with
   |[x,y],_=>exact⟨x,y,rfl⟩
  have hy:128<=y.toNat:=b;have hyn:((10:Int) != (y.toNat:Int))=ZF:=by simp;omega
  clear m b o q hn1 g;have i1:∀w:M,(Instr.index 9 (U ⟨#[32,10]⟩) (Q I 1)).run Pg w=.ok (Q .u8 10) w:=λw=>by kernel_rfl
  have i2:∀w:M,(Instr.index 9 (U ⟨⟨[x,y]⟩⟩) (Q I 1)).run Pg w=.ok (Q .u8 y.toNat) w:=λw=>by kernel_rfl
  have i3:∀w:M,(Instr.slice 9 (U ⟨#[32,10]⟩) (T (Q I 2)) Z Z).run Pg w=.ok (U ⟨#[]⟩) w:=λw=>by kernel_rfl
  go_wp2;go_loop [9] (λi=>i=Q I 1) (λ_=>0);case atStart=>rfl
  case round =>
   subst hrel;go_wp2_with fail;go_step3;go_wp2_with fail;go_region_with fail;all_goals
    go_wp2_with fail;go_region_with (go_at_call 243;refine(Tryz.strings_IndexByte _ _ _).mono ?_;rintro e w2 ⟨rfl,f⟩;subst f);all_goals
     go_wp2;rw[Exit.noGoto_ret];go_wp2;rw[Exit.noGoto_ret];go_wp2;go_ret;exact⟨rfl,(by repeat (first|exact cM _ _|apply UE))⟩
 ·have h4:¬ ((E.size:Int) - 1<2):=by omega
  go_wp2;go_loop [9] (λi=>i=Q I ((E.size:Int) - 1)) (λ_=>0);case atStart=>rfl
  case round =>subst hrel;go_wp2;go_ret;exact⟨rfl,cM _ _⟩
theorem qS (w:M):Calls Pg 331 #[U ⟨#[32,10]⟩,Q .i32 65533] w λe f=>e=ZD (Q I (-1))/\Below w.heap.size w f:=by
 have n0:=λty=>run_next_ascii (P:=Pg) w ⟨#[32,10]⟩ 0 ty (by decide) (by decide);have n1:=λty=>run_next_ascii (P:=Pg) w ⟨#[32,10]⟩ 1 ty (by decide) (by decide);have n2:=run_next_end (P:=Pg) w ⟨#[32,10]⟩ 2;go_enter SS,ntmps331;go_wp2;go_loopg [] 2 (λg b=>∃i:Nat,i+g=2/\b=w.iter ⟨#[32,10]⟩ i);case atStart=>exact⟨0,by omega,rfl⟩
 case round =>
  obtain⟨i,hig,rfl⟩:=hrel;rcases(show i=0∨i=1∨i=2 by omega) with rfl|rfl|rfl
  ·go_wp2;go_roundg 1;case measure=>omega
   case rel=>exact⟨1,by omega,rfl⟩
  ·go_wp2;go_roundg 0;case measure=>omega
   case rel=>exact⟨2,by omega,rfl⟩
  {go_wp2;go_ret;exact⟨rfl,(cM _ w).alloc ly _⟩}
theorem x9 (s:ByteArray)(pos:Nat)(hp:pos<s.size)(h:128<=(s.get! pos).toNat):128<=(Utf8.decode s pos).1/\Utf8.valid (Utf8.decode s pos).1=ZF/\pos+(Utf8.decode s pos).2<=s.size/\∀j,j<(Utf8.decode s pos).2->128<=(s.get! (pos+j)).toNat:=by
 rw[Lib.decode_at];have b0:=UInt8.toNat_lt (s.get! pos);unfold Lib.decodeN Utf8.valid;rw[eT (by omega)];repeat' split
 all_goals
  refine⟨by simp only;omega,by first|(simp;done)|(simp;omega),by simp only;omega,?_⟩;intro j b;simp only at b;rcases(show j=0∨j=1∨j=2∨j=3 by omega) with rfl|rfl|rfl|rfl;all_goals first|exact h|omega
theorem ya (s:ByteArray)(pos:Nat)(h:(s.get! pos).toNat<128):Utf8.decode s pos=((s.get! pos).toNat,1):=by rw[Lib.decode_at];unfold Lib.decodeN;rw[nL h]
theorem uS (s:ByteArray)(i:Nat)(h:i<s.size):s.data.toList[i]?=T (s.get! i):=by rw[Lib.data_getElem? s i h];obtain⟨a⟩:=s;exact A9 T (getElem!_pos a i h).symm
theorem Aa{s:ByteArray}{pos:Nat}(K:Nat)(h:Lib.NoAny s.data.toList [32,10] pos)(hK:pos+K<=s.size)(f:∀j,j<K->128<=(s.get! (pos+j)).toNat):Lib.NoAny s.data.toList [32,10] (pos+K):=by
 intro j b hjk hb;by_cases e:j<pos;{exact h j b e hb};{have h2:=f (j - pos) (by omega);rw[show pos+(j - pos)=j by omega] at h2;rw[uS s j (by omega)] at hb;obtain rfl:=IT hb;simp;refine⟨?_,?_⟩;{intro e;rw[e] at h2;simp at h2};{intro e;rw[e] at h2;simp at h2}}
theorem o9 (s:ByteArray)(w:M)(h8:(s.size:Int)<=8):Calls Pg 323 #[U s,U ⟨#[32,10]⟩] w λe G=>e=ZD (Q I (Lib.indexAny s.data.toList [32,10]))/\Below w.heap.size w G:=by
 have ZQ:decide ((8:Int)<(s.size:Int))=ZA:=MW (by omega);go_enter func323,ntmps323;go_wp2_with fail;refine(Tryz.strings_shouldUseASCIISet _ _).mono ?_;rintro e b ⟨rfl,rfl⟩;rw[ZQ];go_wp2;go_loopg [9,10] s.size (λg _ _ X=>∃pos:Nat,s.size<=pos+g/\X.heap[b.heap.size]?=T (.stringIter s pos)/\Below b.heap.size b X/\Lib.NoAny s.data.toList [32,10] pos/\pos<=s.size);case atStart=>exact⟨0,by omega,World.iter_heap b s 0,(cM _ b).alloc ly _,Lib.NoAny.zero _ _,by omega⟩
 case round =>
  obtain⟨pos,hpg,h,hbw,z,hps⟩:=hrel;have ZK:=ae h;have u:=ae z;have C:=ae hbw;clear hbw z;by_cases t:pos<s.size
  ·obtain⟨g,rfl⟩:∃g,gk=g+1:=⟨gk - 1,by omega⟩
   have m:∀ty,(Instr.next (.pointer (T ⟨b.heap.size,0,Z⟩)) ZF ty).run Pg wr=_:=λty=>Lib.run_next_any_at wr b.heap.size s pos ty h t;clear h;have n:=uS s pos t;obtain⟨x,r⟩:∃x,s.get! pos=x:=⟨_,rfl⟩
   by_cases H:x.toNat<128
   ·have E:=ya s pos (by rw[r];exact H);rw[r] at E n;rw[E] at m;have O:=ae n;have l:=ae (Lib.iterAt_heap wr b.heap.size s pos (pos+1) ZK);have j:=ae (Lib.below_iterAt C (k:=b.heap.size) ly s (pos+1));have i:((x.toNat:Int)).toNat.toUInt8=x:=by simp
    have f:=Lib.contains_iff_indexByte [32,10] x;clear E n r;cases hin:([32,10]:List UInt8).contains x with
    |false =>
     rw[hin] at f;have hlt:¬ ((0:Int)<=Lib.indexByte [32,10] x):=PK f.symm;have D:=ae hin;clear f hin;go_wp2_with fail;refine(Tryz.strings_IndexRune_ascii _ _ _ (by omega) (by omega)).mono ?_;rintro e ZN ⟨rfl,p⟩;rw[p,i];clear p;go_wp2;go_roundg g;case measure=>omega
     case rel=>exact⟨pos+1,by omega,l,j,u.succ O D,by omega⟩
    |true =>rw[hin] at f;have hge:(0:Int)<=Lib.indexByte [32,10] x:=KP f.symm;have D:=ae hin;clear f hin;go_wp2_with fail;refine(Tryz.strings_IndexRune_ascii _ _ _ (by omega) (by omega)).mono ?_;rintro e ZN ⟨rfl,p⟩;rw[p,i];clear p;go_wp2;go_ret;exact⟨by rw[Lib.indexAny_hit u.out O.out D.out];rfl,j⟩
   ·obtain⟨ZJ,L,ZI,B⟩:=x9 s pos t (by rw[r];omega);have ZP:=Lib.rune_le s pos;have ZL:=Lib.width_pos s pos;obtain⟨R,hR⟩:∃R,(Utf8.decode s pos).1=R:=⟨_,rfl⟩
    obtain⟨K,S⟩:∃K,(Utf8.decode s pos).2=K:=⟨_,rfl⟩
    rw[hR] at ZJ L ZP m;rw[S] at ZI B ZL m;have ZM:=ae (Aa K u ZI B);have l:=ae (Lib.iterAt_heap wr b.heap.size s pos (pos+K) ZK);have j:=ae (Lib.below_iterAt C (k:=b.heap.size) ly s (pos+K));have y:b.heap.size<(wr.iterAt b.heap.size s (pos+K)).heap.size:=(E7.1 l).1;clear B n r hR S;have A:∀W:M,Calls Pg 331 #[U ⟨#[32,10]⟩,Q .i32 (R:Int)] W λe G=>e=ZD (Q I (-1))/\Below W.heap.size W G:=by
     intro W;by_cases q:(R:Int)=65533;{rw[q];exact qS W};{exact rX _ W (by omega) (by omega) L q}
    have V:=ae A;clear A;go_wp2_with fail;refine(V _).mono ?_;rintro e ZN ⟨rfl,o⟩;have ZO:=ae (j.trans (o.mono (NH y)));have P:=ae ((o.block b.heap.size y).trans l);clear o;go_wp2;go_roundg g;case measure=>omega
    case rel=>exact⟨pos+K,by omega,P,ZO,ZM,by omega⟩
  ·have m:∀ty,(Instr.next (.pointer (T ⟨b.heap.size,0,Z⟩)) ZF ty).run Pg wr=_:=λty=>Lib.run_next_end_at wr b.heap.size s pos ty h t;clear h;have e:pos=s.size:=by omega
   subst e;go_wp2;go_ret;exact⟨by rw[Lib.indexAny_none (by rw[<-Lib.size_eq];exact u)];rfl,C⟩
theorem ox:∀(j:Nat) b,(([32,10]:List UInt8))[j]?=T b->b.toNat<128:=by
 intro j b h;match j with
 |0=>simp at h;subst h;decide
 |1=>simp at h;subst h;decide
 |j+2=>simp at h
theorem rY (s:ByteArray)(w:M)(f:s.size<4294967281):Calls Pg 323 #[U s,U ⟨#[32,10]⟩] w λe b=>e=ZD (Q I (Lib.indexAny s.data.toList [32,10]))/\Below w.heap.size w b:=by
 by_cases h:(s.size:Int)<=8;{exact o9 s w h};{refine(Tryz.strings_IndexAny_long (zero_of_info (n:=256) (by kernel_rfl)).1 s ⟨#[32,10]⟩ w (by decide) (by omega) f (by decide) ox).mono ?_;rintro e b ⟨rfl,rfl⟩;exact⟨rfl,(br.alloc ly _).alloc (by simp) _⟩}
theorem rZ (s:ByteArray)(w:M):Calls Pg 322 #[U s,U ⟨#[32,10]⟩] w λe b=>e=ZD (U ⟨(Lib.trimLeftS s.data.toList [32,10]).toArray⟩)/\Below w.heap.size w b :=
 Any.strings_TrimLeft_laid lays161 (by kernel_rfl) s ⟨#[32,10]⟩ w (by decide) ox
def bm (c:UInt8):Bool:=([32,10]:List UInt8).contains c
def bR:List UInt8->Nat->List UInt8
 |l,0=>(l.dropWhile bm).takeWhile (λc=>!bm c)
 |l,n+1=>if (l.dropWhile bm).takeWhile (λc=>!bm c)=[] then [] else bR ((l.dropWhile bm).dropWhile (λc=>!bm c)) n
def eY (s:ByteArray)(n:Nat):ByteArray:=⟨(bR s.data.toList n).toArray⟩
theorem lp (l:List UInt8)(n:Nat):bR l n=match n with
 |0=>(l.dropWhile bm).takeWhile (λc=>!bm c)
 |n+1=>if (l.dropWhile bm).takeWhile (λc=>!bm c)=[] then [] else bR ((l.dropWhile bm).dropWhile (λc=>!bm c)) n:=by
 cases n<;>simp[bR]
theorem qT (l:List UInt8):(Lib.indexAny l [32,10]=-1/\l.takeWhile (λc=>!bm c)=l)∨∃k:Nat,Lib.indexAny l [32,10]=k/\k<l.length/\l.takeWhile (λc=>!bm c)=l.take k/\l.dropWhile (λc=>!bm c)=l.drop k:=by
 induction l with
 |nil=>exact .inl ⟨rfl,rfl⟩
 |cons b l h =>
  by_cases hb:bm b=ZF;{refine .inr ⟨0,?_,by simp,by simp[hb],by simp[hb]⟩;have f:([32,10]:List UInt8).contains b=ZF:=hb;rw[Lib.indexAny,nL f];rfl}
  ·have f:¬ ([32,10]:List UInt8).contains b=ZF:=hb;rcases h with ⟨h1,h2⟩|⟨k,h1,h2,g,i⟩
   {refine .inl ⟨?_,by simp[hb,h2]⟩;rw[Lib.indexAny,eT f,h1];rfl};{refine .inr ⟨k+1,?_,by simp[h2],by simp[hb,g],by simp[hb,i]⟩;rw[Lib.indexAny,eT f,h1,eT (by simp<;>omega)];simp}
theorem er (l:List UInt8)(p:UInt8->Bool):(l.dropWhile p).length<=l.length:=by
 induction l with
 |nil=>simp
 |cons b l ih =>
  rw[SJ];split;{simp;omega};{simp}
theorem oy (s:ByteArray)(n:Nat)(w:M)(O:s.size<=2000)(hn:n<=2000):Calls Pg 314 #[U s,Q I n] w λe P=>e=ZD (U (eY s n))/\Below w.heap.size w P:=by
 go_enter func314,ntmps314;go_wp2;go_loopw [0,1] (λS C wr=>∃(t:ByteArray) (k:Nat),S=U t/\C=Q I k/\t.size<=2000/\k<=2000/\bR t.data.toList k=bR s.data.toList n/\Below w.heap.size w wr) (λ_ C _=>(intOf C).toNat);case atStart=>exact⟨s,n,rfl,rfl,O,hn,rfl,cM _ _⟩
 case round =>
  obtain⟨t,k,rfl,rfl,ht,hk,K,G⟩:=hrel;have m:=ae K;have ZQ:=ae G;have H:=G.size;clear K G;go_wp2_with fail;refine(rZ t _).mono ?_;rintro e w1 ⟨rfl,r⟩;have z:=ae (ZQ.trans (r.mono H));clear r;obtain⟨ZL,B⟩:∃ZL:ByteArray,ZL=⟨(Lib.trimLeftS t.data.toList [32,10]).toArray⟩:=⟨_,rfl⟩
  rw[<-B];have q:ZL.data.toList=t.data.toList.dropWhile bm:=by rw[B];rfl
  have y:ZL.size=ZL.data.toList.length:=rfl;have hTz:ZL.size<=2000:=by have h1:=er t.data.toList bm;have h2:t.data.toList.length=t.size:=rfl;rw[y,q];omega
  have A:=z.size;have j:=ae q;clear B q y;go_wp2_with fail;refine(rY ZL _ (by omega)).mono ?_;rintro e w2 ⟨rfl,u⟩;have f:=ae (z.trans (u.mono A));clear u;rcases qT ZL.data.toList with ⟨hz,o⟩|⟨E,hz,ZP,o,ZO⟩
  ·rw[hz];have g:=ae o;clear hz o;by_cases h:k=0;{subst h;go_wp2;go_ret;refine⟨fw ?_,f⟩;unfold eY;rw[<-m.out,bR,<-j.out,g.out]}
   ·have L:((k:Int) == 0)=ZA:=by simp[h]
    obtain⟨k,rfl⟩:∃D,k=D+1:=⟨k - 1,by omega⟩
    by_cases b:ZL.size=0
    ·have x:((ZL.size:Int) == 0)=ZF:=by simp[b]
     go_wp2;go_ret;refine⟨fw ?_,f⟩;unfold eY;rw[<-m.out,bR,<-j.out,g.out];have:ZL.data.toList=[]:=List.eq_nil_of_length_eq_zero b;rw[nL this];rfl
    ·have x:((ZL.size:Int) == 0)=ZA:=by simp[b]
     have i:¬ ZL.data.toList=[]:=λe=>b (by show ZL.data.toList.length=0;rw[e];rfl);go_wp2
     exact⟨⟨⟨#[]⟩,k,rfl,by go_num,by decide,by omega,by
      rw[<-m.out,bR,<-j.out,g.out,eT i];congr 1;have:=List.takeWhile_append_dropWhile (p:=λc=>!bm c) (l:=ZL.data.toList);rw[g.out] at this
      simpa using this.symm,f.out⟩,by first|(simp[intOf];done)|(simp[intOf];omega)⟩
  ·rw[hz];have hE':E<ZL.size:=ZP;have g:=ae o;have ZK:=ae ZO;clear hz o ZO ZP;have ZN:Hid ((ZL.extract 0 E).data.toList=ZL.data.toList.take E):=by show(ZL.extract 0 E).data.toList=ZL.data.toList.take E;simp
   have R:Hid ((ZL.extract E ZL.size).data.toList=ZL.data.toList.drop E):=by show(ZL.extract E ZL.size).data.toList=ZL.data.toList.drop E;simp only[ByteArray.data_extract,Array.toList_extract,List.extract_eq_take_drop];exact KI (by rw[J6];exact nX _)
   by_cases h:k=0;{subst h;go_wp2;go_ret;refine⟨fw ?_,f⟩;unfold eY;rw[<-m.out,bR,<-j.out,g.out,<-ZN.out]}
   ·have L:((k:Int) == 0)=ZA:=by simp[h]
    obtain⟨k,rfl⟩:∃D,k=D+1:=⟨k - 1,by omega⟩
    by_cases b:E=0;{subst b;go_wp2;go_ret;refine⟨fw ?_,f⟩;unfold eY;rw[<-m.out,bR,<-j.out,g.out];simp;rfl}
    ·have x:((E:Int) == 0)=ZA:=by simp[b]
     have i:¬ ZL.data.toList.take E=[]:=λe=>by
      have ZM:(ZL.data.toList.take E).length=0:=by rw[e];rfl
      have h6:ZL.data.toList.length=ZL.size:=rfl;rw[KN] at ZM;omega
     go_wp2
     exact⟨⟨_,k,rfl,by go_num,by simp;omega,by omega,by
      rw[<-m.out,bR,<-j.out,g.out,eT i,ZK.out,R.out],f.out⟩,by first|(simp[intOf];done)|(simp[intOf];omega)⟩
theorem lu (m:Nat):bR [] m=[]:=by cases m<;>simp[bR]
theorem pX{c:UInt8}{l:List UInt8}(h:bm c=ZF)(m:Nat):bR (c::l) m=bR l m:=by rw[lp,lp l];simp only[SJ,h,if_true]
theorem oz (i:u≠[])(h:∀c∈u,bm c=ZA)(g:r=[]∨∃c l,r=c::l/\bm c=ZF):(u++r).dropWhile bm=u++r/\(u++r).takeWhile (λc=>!bm c)=u/\(u++r).dropWhile (λc=>!bm c)=r:=by
 obtain⟨c,u',rfl⟩:=List.exists_cons_of_ne_nil i;refine⟨?_,?_,?_⟩;{rw[J8,SJ,eT (by simp[h c (by simp)])]}
 ·rw[List.takeWhile_append_of_pos (λa f=>by simp[h a f])];rcases g with rfl|⟨d,l,rfl,b⟩
  {simp};{simp[b]}
 ·rw[List.dropWhile_append_of_pos (λa f=>by simp[h a f])];rcases g with rfl|⟨d,l,rfl,b⟩
  {simp};{simp[b]}
theorem wB (b:u≠[])(h:∀c∈u,bm c=ZA)(f:r=[]∨∃c l,r=c::l/\bm c=ZF):bR (u++r) 0=u:=by obtain⟨h1,h2,h3⟩:=oz b h f;rw[bR,h1,h2]
theorem wD (b:u≠[])(h:∀c∈u,bm c=ZA)(g:r=[]∨∃c l,r=c::l/\bm c=ZF)(m:Nat):bR (u++r) (m+1)=bR r m:=by obtain⟨h1,h2,f⟩:=oz b h g;rw[bR,h1,h2,f,eT b]
theorem uT (s:ByteArray)(f i:Nat)(hf:f<i)(hi:i<=s.size)(o:∀j,(h:j<s.size)->f<=j->j<i->bm s[j]=ZA)(g:s.data.toList.drop i=[]∨∃c l,s.data.toList.drop i=c::l/\bm c=ZF):bR (s.data.toList.drop f) 0=(s.extract f i).data.toList/\∀m,bR (s.data.toList.drop f) (m+1)=bR (s.data.toList.drop i) m:=by
 have hL:s.data.toList.length=s.size:=rfl;have e:s.data.toList.drop f=(s.data.toList.drop f).take (i - f)++s.data.toList.drop i:=by
  conv=>lhs;rw[<-MQ (i - f) (s.data.toList.drop f)]
  rw[List.drop_drop];congr 2;omega
 have r:(s.extract f i).data.toList=(s.data.toList.drop f).take (i - f):=by simp only[ByteArray.data_extract,Array.toList_extract,List.extract_eq_take_drop]
 have n:(s.data.toList.drop f).take (i - f)≠[]:=by
  intro e;have p:((s.data.toList.drop f).take (i - f)).length=0:=by rw[e];rfl
  rw[KN,J6] at p;omega
 have b:∀c∈(s.data.toList.drop f).take (i - f),bm c=ZA:=by intro c b;obtain⟨j,q,rfl⟩:=RV.1 b;rw[KN,J6] at q;have:=o (f+j) (by omega) (by omega) (by omega);simp only[List.getElem_take,List.getElem_drop,Array.getElem_toList];exact this
 refine⟨?_,λm=>?_⟩
 ·rw[r];conv=>lhs;rw[e]
  exact wB n b g
 ·conv=>lhs;rw[e]
  exact wD n b g m
theorem ue (s:ByteArray)(n:Nat)(w:M)(hs:s.size<=2000)(hn:n<=2000):Calls Pg 264 #[U s,Q I n] w λe ZK=>e=ZD (U (eY s n))/\Below w.heap.size w ZK:=by
  have hL:s.data.toList.length=s.size:=rfl;have p:∀i:Nat,(h:i<s.size)->s.data.toList.drop i=s[i]::s.data.toList.drop (i+1):=λi h=>List.drop_eq_getElem_cons (by rw[hL];exact h);have G:=ae p;have o:∀i:Nat,s.size<=i->s.data.toList.drop i=[]:=λi h=>List.drop_eq_nil_of_le (by rw[hL];exact h);have t:=ae o;clear p o;go_enter func264,ntmps264;go_wp2
  go_loopw [1,5,6] (λR O H wr=>∃(i m:Nat),i<=s.size+1/\m<=2000/\H=Q I i/\R=Q I m/\Below w.heap.size w wr /\
      ((O=Q I (-1)/\bR (s.data.toList.drop i) m=bR s.data.toList n) ∨
       ∃f:Nat,O=Q I f/\f<i/\i<=s.size/\(∀j,(h:j<s.size)->f<=j->j<i->bm s[j]=ZA)/\bR (s.data.toList.drop f) m=bR s.data.toList n)) (λ_ _ H _=>s.size+1 - (intOf H).toNat)
  case atStart=>exact⟨0,n,by omega,hn,rfl,rfl,cM _ _,.inl ⟨rfl,rfl⟩⟩
  case round =>
    obtain⟨i,m,hi,D,rfl,rfl,P,C⟩:=hrel;have r:=ae P;clear P;by_cases hle:i<=s.size
    · by_cases ZN:i=s.size
      · subst ZN;have l:=t.out s.size ly;have E:=t.out (s.size+1) (by omega);rcases C with ⟨rfl,b⟩|⟨f,rfl,y,_,q,b⟩
        {have g:=ae b;rw[l,lu] at g;clear b l;go_wp2;exact⟨⟨s.size+1,m,by omega,D,by go_num,rfl,r,.inl ⟨rfl,by rw[E,lu];exact g⟩⟩,by first|(simp[intOf];done)|(simp[intOf];omega)⟩}
        · obtain⟨A,B⟩:=uT s f s.size y ly q (.inl l);have ZO:=ae A;have z:=ae B;have g:=ae b;clear q b A B;rw[l] at z;clear l;by_cases u:m=0;{subst u;rw[ZO.out] at g;go_wp2;go_ret;refine⟨fw ?_,r⟩;unfold eY;rw[<-g.out]}
          · have K:((m:Int) == 0)=ZA:=by simp[u]
            obtain⟨m,rfl⟩:∃ZP,m=ZP+1:=⟨m - 1,by omega⟩
            go_wp2;exact⟨⟨s.size+1,m,by omega,by omega,by go_num,by go_num,r,.inl ⟨rfl,by rw[E,<-z.out];exact g⟩⟩,by first|(simp[intOf];done)|(simp[intOf];omega)⟩
      · have ZQ:i<s.size:=by omega
        have heb:((i:Int) == (s.size:Int))=ZA:=by simp;omega
        have l:=G.out i ZQ;cases hgp:bm s[i] with
        |false =>
          have L:((s[i].toNat:Int) == 32)=ZA:=by
            have:¬ s[i]=32:=λe=>by rw[e] at hgp;exact absurd hgp (by decide)
            have h2:¬ s[i].toNat=32:=λe=>this (UInt8.toNat_inj.1 e);simp;omega
          have S:((s[i].toNat:Int) == 10)=ZA:=by
            have:¬ s[i]=10:=λe=>by rw[e] at hgp;exact absurd hgp (by decide)
            have h2:¬ s[i].toNat=10:=λe=>this (UInt8.toNat_inj.1 e);simp;omega
          have x:=ae hgp;clear hgp;rcases C with ⟨rfl,b⟩|⟨f,rfl,y,_,q,b⟩
          · have g:=ae b;clear b l;go_wp2
            exact⟨⟨i+1,m,by omega,D,by go_num,rfl,r,.inr ⟨i,rfl,by omega,by omega,λj h h1 h2=>by
              obtain rfl:j=i:=by omega
              exact x,g⟩⟩,by first|(simp[intOf];done)|(simp[intOf];omega)⟩
          · have g:=ae b;have ZM:=ae q;clear b l q;go_wp2
            exact⟨⟨i+1,m,by omega,D,by go_num,rfl,r,.inr ⟨f,rfl,by omega,by omega,λj h h1 h2=>by
              by_cases e:j=i;{subst e;exact x}
              · exact ZM j h h1 (by omega),g⟩⟩,by first|(simp[intOf];done)|(simp[intOf];omega)⟩
        |true =>
          have ZL:((s[i].toNat:Int) == 32)=ZF∨(((s[i].toNat:Int) == 32)=ZA/\((s[i].toNat:Int) == 10)=ZF):=by
            have:s[i]=32∨s[i]=10:=by simpa[bm] using hgp
            rcases this with e|e;{left;rw[e];rfl};{right;rw[e];exact⟨rfl,rfl⟩}
          have x:=ae hgp;clear hgp;rcases ZL with L|⟨L,S⟩
          all_goals
            rcases C with ⟨rfl,b⟩|⟨f,rfl,y,_,q,b⟩
            · have g:=ae b
              rw[l,pX x.out] at g;clear b l;go_wp2;exact⟨⟨i+1,m,by omega,D,by go_num,rfl,r,.inl ⟨rfl,g⟩⟩,by first|(simp[intOf];done)|(simp[intOf];omega)⟩
            · obtain⟨A,B⟩:=uT s f i y (by omega) q (.inr ⟨_,_,l,x⟩)
              have ZO:=ae A;have z:=ae B;have g:=ae b;rw[l] at z;clear q b A B l;by_cases u:m=0
              · subst u
                rw[ZO.out] at g;go_wp2;go_ret;refine⟨fw ?_,r⟩;unfold eY;rw[<-g.out]
              · have K:((m:Int) == 0)=ZA:=by simp[u]
                obtain⟨m,rfl⟩:∃ZP,m=ZP+1:=⟨m - 1,by omega⟩
                rw[z.out,pX x.out] at g;go_wp2;exact⟨⟨i+1,m,by omega,by omega,by go_num,by go_num,r,.inl ⟨rfl,g⟩⟩,by first|(simp[intOf];done)|(simp[intOf];omega)⟩
    · obtain rfl:i=s.size+1:=by omega
      rcases C with ⟨rfl,b⟩|⟨f,rfl,y,hz,q,b⟩
      {have g:=ae b;rw[t.out _ (by omega),lu] at g;clear b;go_wp2;go_ret;refine⟨fw ?_,r⟩;unfold eY;rw[<-g.out]};{omega}
