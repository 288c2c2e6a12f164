import Derived.Test.YthkpcehepgmdgaaGreatDoorTE
import Derived.Test.YthkpcehepgmdgaaGreatDoorTX
import Derived.Shelf.Strings.SlTrimAscii
import Derived.Lib.OthersKept
import Derived.Lib.TrimU
import Derived.Laws.Runes
import Derived.Deep.LoopGhost
import Derived.WalkMore
set_option maxRecDepth 1000000
set_option maxHeartbeats 8000000
open Option renaming none->Y,some->T
open Go renaming Value.string->U,Value.int->J,IntKind.i64->I,World->G,Ending.returned->ZG,World.heap->Q,Proofs.Tryz.prog->Pg
open Bool renaming false->ZB,true->ZF
open Array renaming size->N
open List renaming length->Z
namespace Go.Proofs.YthkpcehepgmdgaaGreatDoor.Vp
open Tryz RowKit
variable {u r:List UInt8}
theorem tE{r:Int}(h:Utf8.valid r=ZF):Lib.validRune r=ZF:=by unfold Utf8.valid at h;unfold Lib.validRune;simp at *;omega
theorem tF (r:Int)(w:G)(h1:128<=r)(h2:r<=1114111)(g:Utf8.valid r=ZF)(o:¬ r=65533):Calls Pg 174 #[U ⟨#[32,10]⟩,J .i32 r] w λe q=>e=ZG (J I (-1))/\Below (N (Q w)) w q:=by
 obtain⟨n,p,f⟩:=encode_facts r g h1;have j:=tE g;have hne:(r == 65533)=ZB:=by simp[o]
 have hcv:∀w:G,(convert 21 9 (J .i32 r)).run Pg w=.ok (U (Utf8.encode r)) w:=λw=>run_convert_int_string w _ _ _ _ (by rw[QD];rfl) LH;generalize Utf8.encode r=E at *;have hn1:((E.size:Int) - 1).toNat=E.size - 1:=by omega
 go_enter UA,ntmps174;go_wp2_with fail;refine(Tryz.utf8_ValidRune r _).mono ?_;rintro e w1 ⟨rfl,rfl⟩;rw[j];go_wp2_with fail;go_step3;by_cases h:E.size=2
 ·have b:=f (by omega);obtain⟨⟨l⟩⟩:=E;obtain⟨x,y,rfl⟩:∃x y,l=[x,y]:=by
   match l,h with
   |[x,y],_=>exact⟨x,y,rfl⟩
  have hy:128<=y.toNat:=b;have hyn:((10:Int) != (y.toNat:Int))=ZF:=by simp;omega
  clear f b n p hn1 h;have i1:∀w:G,(Instr.index 9 (U ⟨#[32,10]⟩) (J I 1)).run Pg w=.ok (J .u8 10) w:=λw=>by kernel_rfl
  have i2:∀w:G,(Instr.index 9 (U ⟨⟨[x,y]⟩⟩) (J I 1)).run Pg w=.ok (J .u8 y.toNat) w:=λw=>by kernel_rfl
  have i3:∀w:G,(Instr.slice 9 (U ⟨#[32,10]⟩) (T (J I 2)) Y Y).run Pg w=.ok (U ⟨#[]⟩) w:=λw=>by kernel_rfl
  go_wp2;go_loop [9] (λi=>i=J I 1) (λ_=>0);case atStart=>rfl
  case round =>
   subst hrel;go_wp2_with fail;go_step3;go_wp2_with fail;go_region_with fail;all_goals
    go_wp2_with fail;go_region_with (go_at_call 183;refine(Tryz.strings_IndexByte _ _ _).mono ?_;rintro e w2 ⟨rfl,m⟩;subst m);all_goals
     go_wp2;rw[TZ];go_wp2;rw[TZ];go_wp2;go_ret;exact⟨rfl,(by repeat (first|exact cM _ _|apply Below.drew))⟩
 ·have h4:¬ ((E.size:Int) - 1<2):=by omega
  go_wp2;go_loop [9] (λi=>i=J I ((E.size:Int) - 1)) (λ_=>0);case atStart=>rfl
  case round =>subst hrel;go_wp2;go_ret;exact⟨rfl,cM _ _⟩
theorem su (w:G):Calls Pg 174 #[U ⟨#[32,10]⟩,J .i32 65533] w λe f=>e=ZG (J I (-1))/\Below (N (Q w)) w f:=by
 have n0:=λty=>run_next_ascii (P:=Pg) w ⟨#[32,10]⟩ 0 ty (by decide) (by decide);have n1:=λty=>run_next_ascii (P:=Pg) w ⟨#[32,10]⟩ 1 ty (by decide) (by decide);have n2:=run_next_end (P:=Pg) w ⟨#[32,10]⟩ 2;go_enter UA,ntmps174;go_wp2;go_loopg [] 2 (λg b=>∃i:Nat,i+g=2/\b=w.iter ⟨#[32,10]⟩ i);case atStart=>exact⟨0,by omega,rfl⟩
 case round =>
  obtain⟨i,hig,rfl⟩:=hrel;rcases(show i=0∨i=1∨i=2 by omega) with rfl|rfl|rfl
  ·go_wp2;go_roundg 1;case measure=>omega
   case rel=>exact⟨1,by omega,rfl⟩
  ·go_wp2;go_roundg 0;case measure=>omega
   case rel=>exact⟨2,by omega,rfl⟩
  {go_wp2;go_ret;exact⟨rfl,(cM _ w).alloc ly _⟩}
theorem zE (s:ByteArray)(pos:Nat)(hp:pos<s.size)(h:128<=(s.get! pos).toNat):128<=(Utf8.decode s pos).1/\Utf8.valid (Utf8.decode s pos).1=ZF/\pos+(Utf8.decode s pos).2<=s.size/\∀j,j<(Utf8.decode s pos).2->128<=(s.get! (pos+j)).toNat:=by
 rw[Lib.decode_at];have b0:=UInt8.toNat_lt (s.get! pos);unfold Lib.decodeN Utf8.valid;rw[eT (by omega)];repeat' split
 all_goals
  refine⟨by simp only;omega,by first|(simp;done)|(simp;omega),by simp only;omega,?_⟩;intro j b;simp only at b;rcases(show j=0∨j=1∨j=2∨j=3 by omega) with rfl|rfl|rfl|rfl;all_goals first|exact h|omega
theorem zF (s:ByteArray)(pos:Nat)(h:(s.get! pos).toNat<128):Utf8.decode s pos=((s.get! pos).toNat,1):=by rw[Lib.decode_at];unfold Lib.decodeN;rw[hU h]
theorem ww (s:ByteArray)(i:Nat)(h:i<s.size):s.data.toList[i]?=T (s.get! i):=by rw[Lib.data_getElem? s i h];obtain⟨a⟩:=s;exact CD T (getElem!_pos a i h).symm
theorem Bq{s:ByteArray}{pos:Nat}(K:Nat)(h:Lib.NoAny s.data.toList [32,10] pos)(hK:pos+K<=s.size)(f:∀j,j<K->128<=(s.get! (pos+j)).toNat):Lib.NoAny s.data.toList [32,10] (pos+K):=by
 intro j b hjk hb;by_cases e:j<pos;{exact h j b e hb};{have h2:=f (j - pos) (by omega);rw[show pos+(j - pos)=j by omega] at h2;rw[ww s j (by omega)] at hb;obtain rfl:=GD hb;simp;refine⟨?_,?_⟩;{intro e;rw[e] at h2;simp at h2};{intro e;rw[e] at h2;simp at h2}}
theorem qn (s:ByteArray)(w:G)(h8:(s.size:Int)<=8):Calls Pg 168 #[U s,U ⟨#[32,10]⟩] w λe C=>e=ZG (J I (Lib.indexAny s.data.toList [32,10]))/\Below (N (Q w)) w C:=by
 have O:decide ((8:Int)<(s.size:Int))=ZB:=N9 (by omega);go_enter func168,ntmps168;go_wp2_with fail;refine(Tryz.strings_shouldUseASCIISet _ _).mono ?_;rintro e b ⟨rfl,rfl⟩;rw[O];go_wp2;go_loopg [9,10] s.size (λg _ _ P=>∃pos:Nat,s.size<=pos+g/\P.heap[N (Q b)]?=T (.stringIter s pos)/\Below (N (Q b)) b P/\Lib.NoAny s.data.toList [32,10] pos/\pos<=s.size);case atStart=>exact⟨0,by omega,World.iter_heap b s 0,(cM _ b).alloc ly _,Lib.NoAny.zero _ _,by omega⟩
 case round =>
  obtain⟨pos,hpg,h,hbw,A,hps⟩:=hrel;have ZO:=ae h;have t:=ae A;have D:=ae hbw;clear hbw A;by_cases u:pos<s.size
  ·obtain⟨g,rfl⟩:∃g,gk=g+1:=⟨gk - 1,by omega⟩
   have n:∀ty,(Instr.next (.pointer (T ⟨N (Q b),0,Y⟩)) ZF ty).run Pg wr=_:=λty=>Lib.run_next_any_at wr (N (Q b)) s pos ty h u;clear h;have m:=ww s pos u;obtain⟨x,p⟩:∃x,s.get! pos=x:=⟨_,rfl⟩
   by_cases B:x.toNat<128
   ·have H:=zF s pos (by rw[p];exact B);rw[p] at H m;rw[H] at n;have ZM:=ae m;have j:=ae (Lib.iterAt_heap wr (N (Q b)) s pos (pos+1) ZO);have l:=ae (Lib.below_iterAt D (k:=N (Q b)) ly s (pos+1));have i:((x.toNat:Int)).toNat.toUInt8=x:=by simp
    have f:=Lib.contains_iff_indexByte [32,10] x;clear H m p;cases hin:([32,10]:List UInt8).contains x with
    |false =>
     rw[hin] at f;have hlt:¬ ((0:Int)<=Lib.indexByte [32,10] x):=UL f.symm;have ZS:=ae hin;clear f hin;go_wp2_with fail;refine(Tryz.strings_IndexRune_ascii _ _ _ (by omega) (by omega)).mono ?_;rintro e V ⟨rfl,o⟩;rw[o,i];clear o;go_wp2;go_roundg g;case measure=>omega
     case rel=>exact⟨pos+1,by omega,j,l,t.succ ZM ZS,by omega⟩
    |true =>rw[hin] at f;have hge:(0:Int)<=Lib.indexByte [32,10] x:=MA f.symm;have ZS:=ae hin;clear f hin;go_wp2_with fail;refine(Tryz.strings_IndexRune_ascii _ _ _ (by omega) (by omega)).mono ?_;rintro e V ⟨rfl,o⟩;rw[o,i];clear o;go_wp2;go_ret;exact⟨by rw[Lib.indexAny_hit t.out ZM.out ZS.out];rfl,l⟩
   ·obtain⟨ZJ,X,L,E⟩:=zE s pos u (by rw[p];omega);have ZN:=Lib.rune_le s pos;have S:=Lib.width_pos s pos;obtain⟨R,hR⟩:∃R,(Utf8.decode s pos).1=R:=⟨_,rfl⟩
    obtain⟨K,M⟩:∃K,(Utf8.decode s pos).2=K:=⟨_,rfl⟩
    rw[hR] at ZJ X ZN n;rw[M] at L E S n;have ZQ:=ae (Bq K t L E);have j:=ae (Lib.iterAt_heap wr (N (Q b)) s pos (pos+K) ZO);have l:=ae (Lib.below_iterAt D (k:=N (Q b)) ly s (pos+K));have z:N (Q b)<(wr.iterAt (N (Q b)) s (pos+K)).heap.size:=(A9.1 j).1;clear E m p hR M;have y:∀W:G,Calls Pg 174 #[U ⟨#[32,10]⟩,J .i32 (R:Int)] W λe C=>e=ZG (J I (-1))/\Below (N (Q W)) W C:=by
     intro W;by_cases r:(R:Int)=65533;{rw[r];exact su W};{exact tF _ W (by omega) (by omega) X r}
    have ZP:=ae y;clear y;go_wp2_with fail;refine(ZP _).mono ?_;rintro e V ⟨rfl,q⟩;have ZK:=ae (l.trans (q.mono (PD z)));have ZL:=ae ((q.block (N (Q b)) z).trans j);clear q;go_wp2;go_roundg g;case measure=>omega
    case rel=>exact⟨pos+K,by omega,ZL,ZK,ZQ,by omega⟩
  ·have n:∀ty,(Instr.next (.pointer (T ⟨N (Q b),0,Y⟩)) ZF ty).run Pg wr=_:=λty=>Lib.run_next_end_at wr (N (Q b)) s pos ty h u;clear h;have e:pos=s.size:=by omega
   subst e;go_wp2;go_ret;exact⟨by rw[Lib.indexAny_none (by rw[<-Lib.size_eq];exact t)];rfl,D⟩
theorem pw:∀(j:Nat) b,(([32,10]:List UInt8))[j]?=T b->b.toNat<128:=by
 intro j b h;match j with
 |0=>simp at h;subst h;decide
 |1=>simp at h;subst h;decide
 |j+2=>simp at h
theorem tG (s:ByteArray)(w:G)(f:s.size<4294967281):Calls Pg 168 #[U s,U ⟨#[32,10]⟩] w λe b=>e=ZG (J I (Lib.indexAny s.data.toList [32,10]))/\Below (N (Q w)) w b:=by
 by_cases h:(s.size:Int)<=8;{exact qn s w h};{refine(Tryz.strings_IndexAny_long (zero_of_info (n:=256) (by kernel_rfl)).1 s ⟨#[32,10]⟩ w (by decide) (by omega) f (by decide) pw).mono ?_;rintro e b ⟨rfl,rfl⟩;exact⟨rfl,(br.alloc ly _).alloc (by simp) _⟩}
theorem tH (s:ByteArray)(w:G):Calls Pg 167 #[U s,U ⟨#[32,10]⟩] w λe b=>e=ZG (U ⟨(Lib.trimLeftS s.data.toList [32,10]).toArray⟩)/\Below (N (Q w)) w b :=
 Any.strings_TrimLeft_laid lays161 (by kernel_rfl) s ⟨#[32,10]⟩ w (by decide) pw
def bB (c:UInt8):Bool:=([32,10]:List UInt8).contains c
def b9:List UInt8->Nat->List UInt8
 |l,0=>(l.dropWhile bB).takeWhile (λc=>!bB c)
 |l,n+1=>if (l.dropWhile bB).takeWhile (λc=>!bB c)=[] then [] else b9 ((l.dropWhile bB).dropWhile (λc=>!bB c)) n
def fH (s:ByteArray)(n:Nat):ByteArray:=⟨(b9 s.data.toList n).toArray⟩
theorem mr (l:List UInt8)(n:Nat):b9 l n=match n with
 |0=>(l.dropWhile bB).takeWhile (λc=>!bB c)
 |n+1=>if (l.dropWhile bB).takeWhile (λc=>!bB c)=[] then [] else b9 ((l.dropWhile bB).dropWhile (λc=>!bB c)) n:=by
 cases n<;>simp[b9]
theorem sy (l:List UInt8):(Lib.indexAny l [32,10]=-1/\l.takeWhile (λc=>!bB c)=l)∨∃k:Nat,Lib.indexAny l [32,10]=k/\k<Z l/\l.takeWhile (λc=>!bB c)=l.take k/\l.dropWhile (λc=>!bB c)=l.drop k:=by
 induction l with
 |nil=>exact .inl ⟨rfl,rfl⟩
 |cons b l h =>
  by_cases hb:bB b=ZF;{refine .inr ⟨0,?_,by simp,by simp[hb],by simp[hb]⟩;have f:([32,10]:List UInt8).contains b=ZF:=hb;rw[Lib.indexAny,hU f];rfl}
  ·have f:¬ ([32,10]:List UInt8).contains b=ZF:=hb;rcases h with ⟨h1,h2⟩|⟨k,h1,h2,g,i⟩
   {refine .inl ⟨?_,by simp[hb,h2]⟩;rw[Lib.indexAny,eT f,h1];rfl};{refine .inr ⟨k+1,?_,by simp[h2],by simp[hb,g],by simp[hb,i]⟩;rw[Lib.indexAny,eT f,h1,eT (by simp<;>omega)];simp}
theorem fg (l:List UInt8)(p:UInt8->Bool):(l.dropWhile p).length<=Z l:=by
 induction l with
 |nil=>simp
 |cons b l ih =>
  rw[T1];split;{simp;omega};{simp}
theorem px (s:ByteArray)(n:Nat)(w:G)(ZO:s.size<=2000)(hn:n<=2000):Calls Pg 164 #[U s,J I n] w λe O=>e=ZG (U (fH s n))/\Below (N (Q w)) w O:=by
 go_enter func164,ntmps164;go_wp2;go_loopw [0,1] (λZL ZS wr=>∃(t:ByteArray) (k:Nat),ZL=U t/\ZS=J I k/\t.size<=2000/\k<=2000/\b9 t.data.toList k=b9 s.data.toList n/\Below (N (Q w)) w wr) (λ_ ZS _=>(intOf ZS).toNat);case atStart=>exact⟨s,n,rfl,rfl,ZO,hn,rfl,cM _ _⟩
 case round =>
  obtain⟨t,k,rfl,rfl,ht,hk,ZQ,C⟩:=hrel;have m:=ae ZQ;have P:=ae C;have K:=C.size;clear ZQ C;go_wp2_with fail;refine(tH t _).mono ?_;rintro e w1 ⟨rfl,r⟩;have y:=ae (P.trans (r.mono K));clear r;obtain⟨ZM,D⟩:∃ZM:ByteArray,ZM=⟨(Lib.trimLeftS t.data.toList [32,10]).toArray⟩:=⟨_,rfl⟩
  rw[<-D];have q:ZM.data.toList=t.data.toList.dropWhile bB:=by rw[D];rfl
  have u:ZM.size=Z ZM.data.toList:=rfl;have hTz:ZM.size<=2000:=by have h1:=fg t.data.toList bB;have h2:Z t.data.toList=t.size:=rfl;rw[u,q];omega
  have A:=y.size;have j:=ae q;clear D q u;go_wp2_with fail;refine(tG ZM _ (by omega)).mono ?_;rintro e w2 ⟨rfl,z⟩;have f:=ae (y.trans (z.mono A));clear z;rcases sy ZM.data.toList with ⟨hz,o⟩|⟨E,hz,L,o,ZP⟩
  ·rw[hz];have h:=ae o;clear hz o;by_cases g:k=0;{subst g;go_wp2;go_ret;refine⟨gu ?_,f⟩;unfold fH;rw[<-m.out,b9,<-j.out,h.out]}
   ·have H:((k:Int) == 0)=ZB:=by simp[g]
    obtain⟨k,rfl⟩:∃B,k=B+1:=⟨k - 1,by omega⟩
    by_cases b:ZM.size=0
    ·have x:((ZM.size:Int) == 0)=ZF:=by simp[b]
     go_wp2;go_ret;refine⟨gu ?_,f⟩;unfold fH;rw[<-m.out,b9,<-j.out,h.out];have:ZM.data.toList=[]:=List.eq_nil_of_length_eq_zero b;rw[hU this];rfl
    ·have x:((ZM.size:Int) == 0)=ZB:=by simp[b]
     have i:¬ ZM.data.toList=[]:=λe=>b (by show (Z ZM.data.toList)=0;rw[e];rfl);go_wp2
     exact⟨⟨⟨#[]⟩,k,rfl,by go_num,by decide,by omega,by
      rw[<-m.out,b9,<-j.out,h.out,eT i];congr 1;have:=List.takeWhile_append_dropWhile (p:=λc=>!bB c) (l:=ZM.data.toList);rw[h.out] at this
      simpa using this.symm,f.out⟩,by first|(simp[intOf];done)|(simp[intOf];omega)⟩
  ·rw[hz];have hE':E<ZM.size:=L;have h:=ae o;have ZN:=ae ZP;clear hz o ZP L;have R:Hid ((ZM.extract 0 E).data.toList=ZM.data.toList.take E):=by show(ZM.extract 0 E).data.toList=ZM.data.toList.take E;simp
   have S:Hid ((ZM.extract E ZM.size).data.toList=ZM.data.toList.drop E):=by show(ZM.extract E ZM.size).data.toList=ZM.data.toList.drop E;simp only[ByteArray.data_extract,Array.toList_extract,List.extract_eq_take_drop];exact MW (by rw[MH];exact j6 _)
   by_cases g:k=0;{subst g;go_wp2;go_ret;refine⟨gu ?_,f⟩;unfold fH;rw[<-m.out,b9,<-j.out,h.out,<-R.out]}
   ·have H:((k:Int) == 0)=ZB:=by simp[g]
    obtain⟨k,rfl⟩:∃B,k=B+1:=⟨k - 1,by omega⟩
    by_cases b:E=0;{subst b;go_wp2;go_ret;refine⟨gu ?_,f⟩;unfold fH;rw[<-m.out,b9,<-j.out,h.out];simp;rfl}
    ·have x:((E:Int) == 0)=ZB:=by simp[b]
     have i:¬ ZM.data.toList.take E=[]:=λe=>by
      have M:(ZM.data.toList.take E).length=0:=by rw[e];rfl
      have h6:Z ZM.data.toList=ZM.size:=rfl;rw[LU] at M;omega
     go_wp2
     exact⟨⟨_,k,rfl,by go_num,by simp;omega,by omega,by
      rw[<-m.out,b9,<-j.out,h.out,eT i,ZN.out,S.out],f.out⟩,by first|(simp[intOf];done)|(simp[intOf];omega)⟩
theorem mu (m:Nat):b9 [] m=[]:=by cases m<;>simp[b9]
theorem rh{c:UInt8}{l:List UInt8}(h:bB c=ZF)(m:Nat):b9 (c::l) m=b9 l m:=by rw[mr,mr l];simp only[T1,h,SV]
theorem py (i:u≠[])(h:∀c∈u,bB c=ZB)(g:r=[]∨∃c l,r=c::l/\bB c=ZF):(u++r).dropWhile bB=u++r/\(u++r).takeWhile (λc=>!bB c)=u/\(u++r).dropWhile (λc=>!bB c)=r:=by
 obtain⟨c,u',rfl⟩:=List.exists_cons_of_ne_nil i;refine⟨?_,?_,?_⟩;{rw[LQ,T1,eT (by simp[h c (by simp)])]}
 ·rw[List.takeWhile_append_of_pos (λa b=>by simp[h a b])];rcases g with rfl|⟨d,l,rfl,f⟩
  {simp};{simp[f]}
 ·rw[List.dropWhile_append_of_pos (λa b=>by simp[h a b])];rcases g with rfl|⟨d,l,rfl,f⟩
  {simp};{simp[f]}
theorem xP (f:u≠[])(h:∀c∈u,bB c=ZB)(b:r=[]∨∃c l,r=c::l/\bB c=ZF):b9 (u++r) 0=u:=by obtain⟨h1,h2,h3⟩:=py f h b;rw[b9,h1,h2]
theorem xQ (b:u≠[])(h:∀c∈u,bB c=ZB)(f:r=[]∨∃c l,r=c::l/\bB c=ZF)(m:Nat):b9 (u++r) (m+1)=b9 r m:=by obtain⟨h1,h2,g⟩:=py b h f;rw[b9,h1,h2,g,eT b]
theorem wA (s:ByteArray)(f i:Nat)(hf:f<i)(hi:i<=s.size)(p:∀j,(h:j<s.size)->f<=j->j<i->bB s[j]=ZB)(g:s.data.toList.drop i=[]∨∃c l,s.data.toList.drop i=c::l/\bB c=ZF):b9 (s.data.toList.drop f) 0=(s.extract f i).data.toList/\∀m,b9 (s.data.toList.drop f) (m+1)=b9 (s.data.toList.drop i) m:=by
 have hL:Z s.data.toList=s.size:=rfl;have e:s.data.toList.drop f=(s.data.toList.drop f).take (i - f)++s.data.toList.drop i:=by
  conv=>lhs;rw[<-NF (i - f) (s.data.toList.drop f)]
  rw[List.drop_drop];congr 2;omega
 have q:(s.extract f i).data.toList=(s.data.toList.drop f).take (i - f):=by simp only[ByteArray.data_extract,Array.toList_extract,List.extract_eq_take_drop]
 have n:(s.data.toList.drop f).take (i - f)≠[]:=by
  intro e;have o:((s.data.toList.drop f).take (i - f)).length=0:=by rw[e];rfl
  rw[LU,MH] at o;omega
 have b:∀c∈(s.data.toList.drop f).take (i - f),bB c=ZB:=by intro c b;obtain⟨j,r,rfl⟩:=List.mem_iff_getElem.1 b;rw[LU,MH] at r;have:=p (f+j) (by omega) (by omega) (by omega);simp only[List.getElem_take,List.getElem_drop,Array.getElem_toList];exact this
 refine⟨?_,λm=>?_⟩
 ·rw[q];conv=>lhs;rw[e]
  exact xP n b g
 ·conv=>lhs;rw[e]
  exact xQ n b g m
theorem vr (s:ByteArray)(n:Nat)(w:G)(hs:s.size<=2000)(hn:n<=2000):Calls Pg 142 #[U s,J I n] w λe ZM=>e=ZG (U (fH s n))/\Below (N (Q w)) w ZM:=by
  have hL:Z s.data.toList=s.size:=rfl;have p:∀i:Nat,(h:i<s.size)->s.data.toList.drop i=s[i]::s.data.toList.drop (i+1):=λi h=>List.drop_eq_getElem_cons (by rw[hL];exact h);have H:=ae p;have o:∀i:Nat,s.size<=i->s.data.toList.drop i=[]:=λi h=>List.drop_eq_nil_of_le (by rw[hL];exact h);have r:=ae o;clear p o;go_enter func142,ntmps142;go_wp2
  go_loopw [1,5,6] (λZL M ZP wr=>∃(i m:Nat),i<=s.size+1/\m<=2000/\ZP=J I i/\ZL=J I m/\Below (N (Q w)) w wr /\
      ((M=J I (-1)/\b9 (s.data.toList.drop i) m=b9 s.data.toList n) ∨
       ∃f:Nat,M=J I f/\f<i/\i<=s.size/\(∀j,(h:j<s.size)->f<=j->j<i->bB s[j]=ZB)/\b9 (s.data.toList.drop f) m=b9 s.data.toList n)) (λ_ _ ZP _=>s.size+1 - (intOf ZP).toNat)
  case atStart=>exact⟨0,n,by omega,hn,rfl,rfl,cM _ _,.inl ⟨rfl,rfl⟩⟩
  case round =>
    obtain⟨i,m,hi,D,rfl,rfl,K,C⟩:=hrel;have q:=ae K;clear K;by_cases hle:i<=s.size
    · by_cases ZN:i=s.size
      · subst ZN;have l:=r.out s.size ly;have E:=r.out (s.size+1) (by omega);rcases C with ⟨rfl,b⟩|⟨f,rfl,y,_,t,b⟩
        {have g:=ae b;rw[l,mu] at g;clear b l;go_wp2;exact⟨⟨s.size+1,m,by omega,D,by go_num,rfl,q,.inl ⟨rfl,by rw[E,mu];exact g⟩⟩,by first|(simp[intOf];done)|(simp[intOf];omega)⟩}
        · obtain⟨A,z⟩:=wA s f s.size y ly t (.inl l);have ZS:=ae A;have B:=ae z;have g:=ae b;clear t b A z;rw[l] at B;clear l;by_cases u:m=0;{subst u;rw[ZS.out] at g;go_wp2;go_ret;refine⟨gu ?_,q⟩;unfold fH;rw[<-g.out]}
          · have L:((m:Int) == 0)=ZB:=by simp[u]
            obtain⟨m,rfl⟩:∃ZQ,m=ZQ+1:=⟨m - 1,by omega⟩
            go_wp2;exact⟨⟨s.size+1,m,by omega,by omega,by go_num,by go_num,q,.inl ⟨rfl,by rw[E,<-B.out];exact g⟩⟩,by first|(simp[intOf];done)|(simp[intOf];omega)⟩
      · have O:i<s.size:=by omega
        have heb:((i:Int) == (s.size:Int))=ZB:=by simp;omega
        have l:=H.out i O;cases hgp:bB s[i] with
        |false =>
          have P:((s[i].toNat:Int) == 32)=ZB:=by
            have:¬ s[i]=32:=λe=>by rw[e] at hgp;exact absurd hgp (by decide)
            have h2:¬ s[i].toNat=32:=λe=>this (UInt8.toNat_inj.1 e);simp;omega
          have S:((s[i].toNat:Int) == 10)=ZB:=by
            have:¬ s[i]=10:=λe=>by rw[e] at hgp;exact absurd hgp (by decide)
            have h2:¬ s[i].toNat=10:=λe=>this (UInt8.toNat_inj.1 e);simp;omega
          have x:=ae hgp;clear hgp;rcases C with ⟨rfl,b⟩|⟨f,rfl,y,_,t,b⟩
          · have g:=ae b;clear b l;go_wp2
            exact⟨⟨i+1,m,by omega,D,by go_num,rfl,q,.inr ⟨i,rfl,by omega,by omega,λj h h1 h2=>by
              obtain rfl:j=i:=by omega
              exact x,g⟩⟩,by first|(simp[intOf];done)|(simp[intOf];omega)⟩
          · have g:=ae b;have ZO:=ae t;clear b l t;go_wp2
            exact⟨⟨i+1,m,by omega,D,by go_num,rfl,q,.inr ⟨f,rfl,by omega,by omega,λj h h1 h2=>by
              by_cases e:j=i;{subst e;exact x}
              · exact ZO j h h1 (by omega),g⟩⟩,by first|(simp[intOf];done)|(simp[intOf];omega)⟩
        |true =>
          have R:((s[i].toNat:Int) == 32)=ZF∨(((s[i].toNat:Int) == 32)=ZB/\((s[i].toNat:Int) == 10)=ZF):=by
            have:s[i]=32∨s[i]=10:=by simpa[bB] using hgp
            rcases this with e|e;{left;rw[e];rfl};{right;rw[e];exact⟨rfl,rfl⟩}
          have x:=ae hgp;clear hgp;rcases R with P|⟨P,S⟩
          all_goals
            rcases C with ⟨rfl,b⟩|⟨f,rfl,y,_,t,b⟩
            · have g:=ae b
              rw[l,rh x.out] at g;clear b l;go_wp2;exact⟨⟨i+1,m,by omega,D,by go_num,rfl,q,.inl ⟨rfl,g⟩⟩,by first|(simp[intOf];done)|(simp[intOf];omega)⟩
            · obtain⟨A,z⟩:=wA s f i y (by omega) t (.inr ⟨_,_,l,x⟩)
              have ZS:=ae A;have B:=ae z;have g:=ae b;rw[l] at B;clear t b A z l;by_cases u:m=0
              · subst u
                rw[ZS.out] at g;go_wp2;go_ret;refine⟨gu ?_,q⟩;unfold fH;rw[<-g.out]
              · have L:((m:Int) == 0)=ZB:=by simp[u]
                obtain⟨m,rfl⟩:∃ZQ,m=ZQ+1:=⟨m - 1,by omega⟩
                rw[B.out,rh x.out] at g;go_wp2;exact⟨⟨i+1,m,by omega,by omega,by go_num,by go_num,q,.inl ⟨rfl,g⟩⟩,by first|(simp[intOf];done)|(simp[intOf];omega)⟩
    · obtain rfl:i=s.size+1:=by omega
      rcases C with ⟨rfl,b⟩|⟨f,rfl,y,hz,t,b⟩
      {have g:=ae b;rw[r.out _ (by omega),mu] at g;clear b;go_wp2;go_ret;refine⟨gu ?_,q⟩;unfold fH;rw[<-g.out]};{omega}
