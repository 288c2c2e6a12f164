import Derived.Test.YtcnilonhfpimnaaGreatDoorFM
import Derived.Shelf.Strings.SlTrimAscii
import Derived.Lib.OthersKept
import Derived.Lib.TrimU
import Derived.Laws.Runes
import Derived.Deep.LoopGhost
import Derived.WalkMore
set_option linter.all false
set_option maxRecDepth 1000000
set_option maxHeartbeats 8000000
open Option renaming none->Y,some->Q
open Go renaming Value.string->U,Value.int->J,IntKind.i64->I,World->E,Ending.returned->ZI,World.heap->T,Proofs.Tryz.prog->Pg
open Bool renaming false->ZA,true->ZH
open Array renaming size->N
open List renaming length->Z
namespace Go.Proofs.YtcnilonhfpimnaaGreatDoor.Vp
open Tryz RowKit
variable {u r:List UInt8}
def uF{r:Int}(h:Utf8.valid r=ZH):Lib.validRune r=ZH:=by unfold Utf8.valid at h;unfold Lib.validRune;simp at *;omega
def uG (r:Int)(w:E)(h1:128<=r)(h2:r<=1114111)(f:Utf8.valid r=ZH)(o:¬ r=65533):Calls Pg 211 #[U ⟨#[32,10]⟩,J .i32 r] w λe q=>e=ZI (J I (-1))/\Below (N (T w)) w q:=by
 obtain⟨n,p,h⟩:=encode_facts r f h1;have g:=uF f;have hne:(r == 65533)=ZA:=by simp[o]
 have hcv:∀w:E,(convert 21 9 (J .i32 r)).run Pg w=.ok (U (Utf8.encode r)) w:=λw=>run_convert_int_string w _ _ _ _ (by rw[UE];rfl) E4;generalize Utf8.encode r=ZT at *;have hn1:((ZT.size:Int) - 1).toNat=ZT.size - 1:=by omega
 go_enter XV,ntmps211;go_wp2_with fail;refine(Tryz.utf8_ValidRune r _).P ?_;rintro e w1⟨rfl,rfl⟩;rw[g];go_wp2_with fail;go_step3;by_cases j:ZT.size=2
 ·have b:=h (by omega);obtain⟨⟨l⟩⟩:=ZT;obtain⟨x,y,rfl⟩:∃x y,l=[x,y]:=by
   match l,j with
   |[x,y],_=>exact⟨x,y,rfl⟩
  have hy:128<=y.toNat:=b;have hyn:((10:Int) != (y.toNat:Int))=ZH:=by simp;omega
  clear h b n p hn1 j;have i1:∀w:E,(Instr.index 9 (U ⟨#[32,10]⟩) (J I 1)).run Pg w=.ok (J .u8 10) w:=λw=>by kernel_rfl
  have i2:∀w:E,(Instr.index 9 (U ⟨⟨[x,y]⟩⟩) (J I 1)).run Pg w=.ok (J .u8 y.toNat) w:=λw=>by kernel_rfl
  have i3:∀w:E,(Instr.slice 9 (U ⟨#[32,10]⟩) (Q (J I 2)) Y Y).run Pg w=.ok (U ⟨#[]⟩) w:=λw=>by kernel_rfl
  go_wp2;go_loop [9] (λi=>i=J I 1) (λ_=>0);case atStart=>rfl
  case round =>
   subst hrel;go_wp2_with fail;go_step3;go_wp2_with fail;go_region_with fail;all_goals
    go_wp2_with fail;go_region_with (go_at_call 220;refine(Tryz.strings_IndexByte _ _ _).P ?_;rintro e w2⟨rfl,m⟩;subst m);all_goals
     go_wp2;rw[XO];go_wp2;rw[XO];go_wp2;go_ret;exact⟨rfl,(by repeat (first|exact a8 _ _|apply Below.drew))⟩
 ·have h4:¬ ((ZT.size:Int) - 1<2):=by omega
  go_wp2;go_loop [9] (λi=>i=J I ((ZT.size:Int) - 1)) (λ_=>0);case atStart=>rfl
  case round =>subst hrel;go_wp2;go_ret;exact⟨rfl,a8 _ _⟩
def tQ (w:E):Calls Pg 211 #[U ⟨#[32,10]⟩,J .i32 65533] w λe f=>e=ZI (J I (-1))/\Below (N (T w)) w f:=by
 have n0:=λty=>run_next_ascii (P:=Pg) w ⟨#[32,10]⟩ 0 ty (by decide) (by decide);have n1:=λty=>run_next_ascii (P:=Pg) w ⟨#[32,10]⟩ 1 ty (by decide) (by decide);have n2:=run_next_end (P:=Pg) w ⟨#[32,10]⟩ 2;go_enter XV,ntmps211;go_wp2;go_loopg [] 2 (λg b=>∃i:Nat,i+g=2/\b=w.iter ⟨#[32,10]⟩ i);case atStart=>exact⟨0,by omega,rfl⟩
 case round =>
  obtain⟨i,hig,rfl⟩:=hrel;rcases(show i=0\/i=1\/i=2 by omega) with rfl|rfl|rfl
  ·go_wp2;go_roundg 1;case measure=>omega
   case rel=>exact⟨1,by omega,rfl⟩
  ·go_wp2;go_roundg 0;case measure=>omega
   case rel=>exact⟨2,by omega,rfl⟩
  {go_wp2;go_ret;exact⟨rfl,(a8 _ w).alloc ly _⟩}
def Bf (s:F_)(pos:Nat)(hp:pos<s.size)(h:128<=(s.get! pos).toNat):128<=(Utf8.decode s pos).1/\Utf8.valid (Utf8.decode s pos).1=ZH/\pos+(Utf8.decode s pos).2<=s.size/\∀j,j<(Utf8.decode s pos).2->128<=(s.get! (pos+j)).toNat:=by
 rw[Lib.decode_at];have b0:=UInt8.toNat_lt (s.get! pos);unfold Lib.decodeN Utf8.valid;rw[eI (by omega)];repeat' split
 all_goals
  refine⟨by simp only;omega,by first|(simp;done)|(simp;omega),by simp only;omega,?_⟩;intro j b;simp only at b;rcases(show j=0\/j=1\/j=2\/j=3 by omega) with rfl|rfl|rfl|rfl;all_goals first|exact h|omega
def Bg (s:F_)(pos:Nat)(h:(s.get! pos).toNat<128):Utf8.decode s pos=((s.get! pos).toNat,1):=by rw[Lib.decode_at];unfold Lib.decodeN;rw[eT h]
def xR (s:F_)(i:Nat)(h:i<s.size):s.data.toList[i]?=Q (s.get! i):=by rw[Lib.data_getElem? s i h];obtain⟨a⟩:=s;exact xT Q (getElem!_pos a i h).c
def Er{s:F_}{pos:Nat}(K:Nat)(h:Lib.NoAny s.data.toList [32,10] pos)(hK:pos+K<=s.size)(f:∀j,j<K->128<=(s.get! (pos+j)).toNat):Lib.NoAny s.data.toList [32,10] (pos+K):=by
 intro j b hjk hb;by_cases e:j<pos;{exact h j b e hb};{have h2:=f (j - pos) (by omega);rw[show pos+(j - pos)=j by omega] at h2;rw[xR s j (by omega)] at hb;obtain rfl:=IN hb;simp;refine⟨?_,?_⟩;{intro e;rw[e] at h2;simp at h2};{intro e;rw[e] at h2;simp at h2}}
def rD (s:F_)(w:E)(h8:(s.size:Int)<=8):Calls Pg 205 #[U s,U ⟨#[32,10]⟩] w λe G=>e=ZI (J I (Lib.indexAny s.data.toList [32,10]))/\Below (N (T w)) w G:=by
 have ZS:decide ((8:Int)<(s.size:Int))=ZA:=U8 (by omega);go_enter func205,ntmps205;go_wp2_with fail;refine(Tryz.strings_shouldUseASCIISet _ _).P ?_;rintro e b⟨rfl,rfl⟩;rw[ZS];go_wp2;go_loopg [9,10] s.size (λg _ _ ZM=>∃pos:Nat,s.size<=pos+g/\ZM.heap[N (T b)]?=Q (.stringIter s pos)/\Below (N (T b)) b ZM/\Lib.NoAny s.data.toList [32,10] pos/\pos<=s.size);case atStart=>exact⟨0,by omega,World.iter_heap b s 0,(a8 _ b).alloc ly _,Lib.NoAny.zero _ _,by omega⟩
 case round =>
  obtain⟨pos,hpg,h,hbw,z,hps⟩:=hrel;have L:=ae h;have u:=ae z;have H:=ae hbw;clear hbw z;by_cases t:pos<s.size
  ·obtain⟨g,rfl⟩:∃g,gk=g+1:=⟨gk - 1,by omega⟩
   have i:∀ty,(Instr.next (.pointer (Q ⟨N (T b),0,Y⟩)) ZH ty).run Pg wr=_:=λty=>Lib.run_next_any_at wr (N (T b)) s pos ty h t;clear h;have n:=xR s pos t;obtain⟨x,o⟩:∃x,s.get! pos=x:=⟨_,rfl⟩
   by_cases B:x.toNat<128
   ·have ZT:=Bg s pos (by rw[o];exact B);rw[o] at ZT n;rw[ZT] at i;have M:=ae n;have l:=ae (Lib.iterAt_heap wr (N (T b)) s pos (pos+1) L);have j:=ae (Lib.below_iterAt H (k:=N (T b)) ly s (pos+1));have m:((x.toNat:Int)).toNat.toUInt8=x:=by simp
    have f:=Lib.contains_iff_indexByte [32,10] x;clear ZT n o;cases hin:([32,10]:List UInt8).contains x with
    |false =>
     rw[hin] at f;have hlt:¬ ((0:Int)<=Lib.indexByte [32,10] x):=VB f.c;have D:=ae hin;clear f hin;go_wp2_with fail;refine(Tryz.strings_IndexRune_ascii _ _ _ (by omega) (by omega)).P ?_;rintro e P⟨rfl,p⟩;rw[p,m];clear p;go_wp2;go_roundg g;case measure=>omega
     case rel=>exact⟨pos+1,by omega,l,j,u.succ M D,by omega⟩
    |true =>rw[hin] at f;have hge:(0:Int)<=Lib.indexByte [32,10] x:=OU f.c;have D:=ae hin;clear f hin;go_wp2_with fail;refine(Tryz.strings_IndexRune_ascii _ _ _ (by omega) (by omega)).P ?_;rintro e P⟨rfl,p⟩;rw[p,m];clear p;go_wp2;go_ret;exact⟨by rw[Lib.indexAny_hit u.i M.i D.i];rfl,j⟩
   ·obtain⟨ZL,ZQ,ZR,C⟩:=Bf s pos t (by rw[o];omega);have X:=Lib.rune_le s pos;have ZN:=Lib.width_pos s pos;obtain⟨R,hR⟩:∃R,(Utf8.decode s pos).1=R:=⟨_,rfl⟩
    obtain⟨K,O⟩:∃K,(Utf8.decode s pos).2=K:=⟨_,rfl⟩
    rw[hR] at ZL ZQ X i;rw[O] at ZR C ZN i;have S:=ae (Er K u ZR C);have l:=ae (Lib.iterAt_heap wr (N (T b)) s pos (pos+K) L);have j:=ae (Lib.below_iterAt H (k:=N (T b)) ly s (pos+K));have A:N (T b)<(wr.iterAt (N (T b)) s (pos+K)).heap.size:=(CV.1 l).1;clear C n o hR O;have y:∀W:E,Calls Pg 211 #[U ⟨#[32,10]⟩,J .i32 (R:Int)] W λe G=>e=ZI (J I (-1))/\Below (N (T W)) W G:=by
     intro W;by_cases q:(R:Int)=65533;{rw[q];exact tQ W};{exact uG _ W (by omega) (by omega) ZQ q}
    have ZO:=ae y;clear y;go_wp2_with fail;refine(ZO _).P ?_;rintro e P⟨rfl,r⟩;have ZP:=ae (j.k (r.P (TQ A)));have V:=ae ((r.p (N (T b)) A).k l);clear r;go_wp2;go_roundg g;case measure=>omega
    case rel=>exact⟨pos+K,by omega,V,ZP,S,by omega⟩
  ·have i:∀ty,(Instr.next (.pointer (Q ⟨N (T b),0,Y⟩)) ZH ty).run Pg wr=_:=λty=>Lib.run_next_end_at wr (N (T b)) s pos ty h t;clear h;have e:pos=s.size:=by omega
   subst e;go_wp2;go_ret;exact⟨by rw[Lib.indexAny_none (by rw[<-Lib.size_eq];exact u)];rfl,H⟩
def qq:∀(j:Nat) b,(([32,10]:List UInt8))[j]?=Q b->b.toNat<128:=by
 intro j b h;match j with
 |0=>simp at h;subst h;decide
 |1=>simp at h;subst h;decide
 |j+2=>simp at h
def uH (s:F_)(w:E)(f:s.size<4294967281):Calls Pg 205 #[U s,U ⟨#[32,10]⟩] w λe b=>e=ZI (J I (Lib.indexAny s.data.toList [32,10]))/\Below (N (T w)) w b:=by
 by_cases h:(s.size:Int)<=8;{exact rD s w h};{refine(Tryz.strings_IndexAny_long (zero_of_info (n:=256) (by kernel_rfl)).1 s ⟨#[32,10]⟩ w (by decide) (by omega) f (by decide) qq).P ?_;rintro e b⟨rfl,rfl⟩;exact⟨rfl,(br.alloc ly _).alloc (by simp) _⟩}
def uI (s:F_)(w:E):Calls Pg 204 #[U s,U ⟨#[32,10]⟩] w λe b=>e=ZI (U ⟨(Lib.trimLeftS s.data.toList [32,10]).toArray⟩)/\Below (N (T w)) w b:=
 Any.strings_TrimLeft_laid lays161 (by kernel_rfl) s ⟨#[32,10]⟩ w (by decide) qq
def bI (c:UInt8):Bool:=([32,10]:List UInt8).contains c
def cE:List UInt8->Nat->List UInt8
 |l,0=>(l.dropWhile bI).takeWhile (λc=>!bI c)
 |l,n+1=>if (l.dropWhile bI).takeWhile (λc=>!bI c)=[] then [] else cE ((l.dropWhile bI).dropWhile (λc=>!bI c)) n
def fV (s:F_)(n:Nat):F_:=⟨(cE s.data.toList n).toArray⟩
def ny (l:List UInt8)(n:Nat):cE l n=match n with
 |0=>(l.dropWhile bI).takeWhile (λc=>!bI c)
 |n+1=>if (l.dropWhile bI).takeWhile (λc=>!bI c)=[] then [] else cE ((l.dropWhile bI).dropWhile (λc=>!bI c)) n:=by
 cases n<;>simp[cE]
def tR (l:List UInt8):(Lib.indexAny l [32,10]=-1/\l.takeWhile (λc=>!bI c)=l)\/∃k:Nat,Lib.indexAny l [32,10]=k/\k<Z l/\l.takeWhile (λc=>!bI c)=l.take k/\l.dropWhile (λc=>!bI c)=l.drop k:=by
 induction l with
 |nil=>exact .inl ⟨rfl,rfl⟩
 |cons b l h =>
  by_cases hb:bI b=ZH;{refine .inr ⟨0,?_,by simp,by simp[hb],by simp[hb]⟩;have f:([32,10]:List UInt8).contains b=ZH:=hb;rw[Lib.indexAny,eT f];rfl}
  ·have f:¬ ([32,10]:List UInt8).contains b=ZH:=hb;rcases h with⟨h1,h2⟩|⟨k,h1,h2,i,g⟩
   {refine .inl ⟨?_,by simp[hb,h2]⟩;rw[Lib.indexAny,eI f,h1];rfl};{refine .inr ⟨k+1,?_,by simp[h2],by simp[hb,i],by simp[hb,g]⟩;rw[Lib.indexAny,eI f,h1,eI (by simp<;>omega)];simp}
def fB (l:List UInt8)(p:UInt8->Bool):(l.dropWhile p).length<=Z l:=by
 induction l with
 |nil=>simp
 |cons b l ih =>
  rw[XR];split;{simp;omega};{simp}
def qt (s:F_)(n:Nat)(w:E)(P:s.size<=2000)(hn:n<=2000):Calls Pg 201 #[U s,J I n] w λe ZO=>e=ZI (U (fV s n))/\Below (N (T w)) w ZO:=by
 go_enter func201,ntmps201;go_wp2;go_loopw [0,1] (λZN D wr=>∃(t:F_) (k:Nat),ZN=U t/\D=J I k/\t.size<=2000/\k<=2000/\cE t.data.toList k=cE s.data.toList n/\Below (N (T w)) w wr) (λ_ D _=>(intOf D).toNat);case atStart=>exact⟨s,n,rfl,rfl,P,hn,rfl,a8 _ _⟩
 case round =>
  obtain⟨t,k,rfl,rfl,ht,hk,ZS,A⟩:=hrel;have j:=ae ZS;have S:=ae A;have L:=A.size;clear ZS A;go_wp2_with fail;refine(uI t _).P ?_;rintro e w1⟨rfl,u⟩;have x:=ae (S.k (u.P L));clear u;obtain⟨ZP,B⟩:∃ZP:F_,ZP=⟨(Lib.trimLeftS t.data.toList [32,10]).toArray⟩:=⟨_,rfl⟩
  rw[<-B];have o:ZP.data.toList=t.data.toList.dropWhile bI:=by rw[B];rfl
  have r:ZP.size=Z ZP.data.toList:=rfl;have hTz:ZP.size<=2000:=by have h1:=fB t.data.toList bI;have h2:Z t.data.toList=t.size:=rfl;rw[r,o];omega
  have G:=x.size;have m:=ae o;clear B o r;go_wp2_with fail;refine(uH ZP _ (by omega)).P ?_;rintro e w2⟨rfl,z⟩;have f:=ae (x.k (z.P G));clear z;rcases tR ZP.data.toList with⟨hz,q⟩|⟨ZT,hz,K,q,H⟩
  ·rw[hz];have h:=ae q;clear hz q;by_cases g:k=0;{subst g;go_wp2;go_ret;refine⟨gH ?_,f⟩;unfold fV;rw[<-j.i,cE,<-m.i,h.i]}
   ·have ZR:((k:Int) == 0)=ZA:=by simp[g]
    obtain⟨k,rfl⟩:∃C,k=C+1:=⟨k - 1,by omega⟩
    by_cases b:ZP.size=0
    ·have y:((ZP.size:Int) == 0)=ZH:=by simp[b]
     go_wp2;go_ret;refine⟨gH ?_,f⟩;unfold fV;rw[<-j.i,cE,<-m.i,h.i];have:ZP.data.toList=[]:=List.eq_nil_of_length_eq_zero b;rw[eT this];rfl
    ·have y:((ZP.size:Int) == 0)=ZA:=by simp[b]
     have i:¬ ZP.data.toList=[]:=λe=>b (by show (Z ZP.data.toList)=0;rw[e];rfl);go_wp2
     exact⟨⟨⟨#[]⟩,k,rfl,by go_num,by decide,by omega,by
      rw[<-j.i,cE,<-m.i,h.i,eI i];congr 1;have:=List.takeWhile_append_dropWhile (p:=λc=>!bI c) (l:=ZP.data.toList);rw[h.i] at this
      simpa using this.c,f.i⟩,by first|(simp[intOf];done)|(simp[intOf];omega)⟩
  ·rw[hz];have hE':ZT<ZP.size:=K;have h:=ae q;have R:=ae H;clear hz q H K;have O:Hid ((ZP.extract 0 ZT).data.toList=ZP.data.toList.take ZT):=by show(ZP.extract 0 ZT).data.toList=ZP.data.toList.take ZT;simp
   have M:Hid ((ZP.extract ZT ZP.size).data.toList=ZP.data.toList.drop ZT):=by show(ZP.extract ZT ZP.size).data.toList=ZP.data.toList.drop ZT;simp only[ByteArray.data_extract,Array.toList_extract,List.extract_eq_take_drop];exact NV (by rw[NO];exact p7 _)
   by_cases g:k=0;{subst g;go_wp2;go_ret;refine⟨gH ?_,f⟩;unfold fV;rw[<-j.i,cE,<-m.i,h.i,<-O.i]}
   ·have ZR:((k:Int) == 0)=ZA:=by simp[g]
    obtain⟨k,rfl⟩:∃C,k=C+1:=⟨k - 1,by omega⟩
    by_cases b:ZT=0;{subst b;go_wp2;go_ret;refine⟨gH ?_,f⟩;unfold fV;rw[<-j.i,cE,<-m.i,h.i];simp;rfl}
    ·have y:((ZT:Int) == 0)=ZA:=by simp[b]
     have i:¬ ZP.data.toList.take ZT=[]:=λe=>by
      have ZQ:(ZP.data.toList.take ZT).length=0:=by rw[e];rfl
      have h6:Z ZP.data.toList=ZP.size:=rfl;rw[OD] at ZQ;omega
     go_wp2
     exact⟨⟨_,k,rfl,by go_num,by simp;omega,by omega,by
      rw[<-j.i,cE,<-m.i,h.i,eI i,R.i,M.i],f.i⟩,by first|(simp[intOf];done)|(simp[intOf];omega)⟩
def nA (m:Nat):cE [] m=[]:=by cases m<;>simp[cE]
def sE{c:UInt8}{l:List UInt8}(h:bI c=ZH)(m:Nat):cE (c::l) m=cE l m:=by rw[ny,ny l];simp only[XR,h,Y2]
def qu (i:u≠[])(h:∀c∈u,bI c=ZA)(g:r=[]\/∃c l,r=c::l/\bI c=ZH):(u++r).dropWhile bI=u++r/\(u++r).takeWhile (λc=>!bI c)=u/\(u++r).dropWhile (λc=>!bI c)=r:=by
 obtain⟨c,u',rfl⟩:=List.exists_cons_of_ne_nil i;refine⟨?_,?_,?_⟩;{rw[PC,XR,eI (by simp[h c (by simp)])]}
 ·rw[List.takeWhile_append_of_pos (λa b=>by simp[h a b])];rcases g with rfl|⟨d,l,rfl,f⟩
  {simp};{simp[f]}
 ·rw[List.dropWhile_append_of_pos (λa b=>by simp[h a b])];rcases g with rfl|⟨d,l,rfl,f⟩
  {simp};{simp[f]}
def zo (f:u≠[])(h:∀c∈u,bI c=ZA)(b:r=[]\/∃c l,r=c::l/\bI c=ZH):cE (u++r) 0=u:=by obtain⟨h1,h2,h3⟩:=qu f h b;rw[cE,h1,h2]
def zp (b:u≠[])(h:∀c∈u,bI c=ZA)(f:r=[]\/∃c l,r=c::l/\bI c=ZH)(m:Nat):cE (u++r) (m+1)=cE r m:=by obtain⟨h1,h2,g⟩:=qu b h f;rw[cE,h1,h2,g,eI b]
def xS (s:F_)(f i:Nat)(hf:f<i)(hi:i<=s.size)(q:∀j,(h:j<s.size)->f<=j->j<i->bI s[j]=ZA)(g:s.data.toList.drop i=[]\/∃c l,s.data.toList.drop i=c::l/\bI c=ZH):cE (s.data.toList.drop f) 0=(s.extract f i).data.toList/\∀m,cE (s.data.toList.drop f) (m+1)=cE (s.data.toList.drop i) m:=by
 have hL:Z s.data.toList=s.size:=rfl;have e:s.data.toList.drop f=(s.data.toList.drop f).take (i - f)++s.data.toList.drop i:=by
  conv=>lhs;rw[<-QO (i - f) (s.data.toList.drop f)]
  rw[List.drop_drop];congr 2;omega
 have o:(s.extract f i).data.toList=(s.data.toList.drop f).take (i - f):=by simp only[ByteArray.data_extract,Array.toList_extract,List.extract_eq_take_drop]
 have n:(s.data.toList.drop f).take (i - f)≠[]:=by
  intro e;have p:((s.data.toList.drop f).take (i - f)).length=0:=by rw[e];rfl
  rw[OD,NO] at p;omega
 have b:∀c∈(s.data.toList.drop f).take (i - f),bI c=ZA:=by intro c b;obtain⟨j,r,rfl⟩:=List.mem_iff_getElem.1 b;rw[OD,NO] at r;have:=q (f+j) (by omega) (by omega) (by omega);simp only[List.getElem_take,VZ,Array.getElem_toList];exact this
 refine⟨?_,λm=>?_⟩
 ·rw[o];conv=>lhs;rw[e]
  exact zo n b g
 ·conv=>lhs;rw[e]
  exact zp n b g m
def xh (s:F_)(n:Nat)(w:E)(hs:s.size<=2000)(hn:n<=2000):Calls Pg 163 #[U s,J I n] w λe S=>e=ZI (U (fV s n))/\Below (N (T w)) w S:=by
  have hL:Z s.data.toList=s.size:=rfl;have p:∀i:Nat,(h:i<s.size)->s.data.toList.drop i=s[i]::s.data.toList.drop (i+1):=λi h=>UX (by rw[hL];exact h);have G:=ae p;have o:∀i:Nat,s.size<=i->s.data.toList.drop i=[]:=λi h=>List.drop_eq_nil_of_le (by rw[hL];exact h);have r:=ae o;clear p o;go_enter func163,ntmps163;go_wp2
  go_loopw [1,5,6] (λZN O ZR wr=>∃(i m:Nat),i<=s.size+1/\m<=2000/\ZR=J I i/\ZN=J I m/\Below (N (T w)) w wr /\
      ((O=J I (-1)/\cE (s.data.toList.drop i) m=cE s.data.toList n) \/
       ∃f:Nat,O=J I f/\f<i/\i<=s.size/\(∀j,(h:j<s.size)->f<=j->j<i->bI s[j]=ZA)/\cE (s.data.toList.drop f) m=cE s.data.toList n)) (λ_ _ ZR _=>s.size+1 - (intOf ZR).toNat)
  case atStart=>exact⟨0,n,by omega,hn,rfl,rfl,a8 _ _,.inl ⟨rfl,rfl⟩⟩
  case round =>
    obtain⟨i,m,hi,D,rfl,rfl,L,C⟩:=hrel;have t:=ae L;clear L;by_cases hle:i<=s.size
    · by_cases R:i=s.size
      · subst R;have l:=r.i s.size ly;have ZT:=r.i (s.size+1) (by omega);rcases C with⟨rfl,g⟩|⟨f,rfl,z,_,q,g⟩
        {have b:=ae g;rw[l,nA] at b;clear g l;go_wp2;exact⟨⟨s.size+1,m,by omega,D,by go_num,rfl,t,.inl ⟨rfl,by rw[ZT,nA];exact b⟩⟩,by first|(simp[intOf];done)|(simp[intOf];omega)⟩}
        · obtain⟨A,y⟩:=xS s f s.size z ly q (.inl l);have ZS:=ae A;have B:=ae y;have b:=ae g;clear q g A y;rw[l] at B;clear l;by_cases u:m=0;{subst u;rw[ZS.i] at b;go_wp2;go_ret;refine⟨gH ?_,t⟩;unfold fV;rw[<-b.i]}
          · have P:((m:Int) == 0)=ZA:=by simp[u]
            obtain⟨m,rfl⟩:∃H,m=H+1:=⟨m - 1,by omega⟩
            go_wp2;exact⟨⟨s.size+1,m,by omega,by omega,by go_num,by go_num,t,.inl ⟨rfl,by rw[ZT,<-B.i];exact b⟩⟩,by first|(simp[intOf];done)|(simp[intOf];omega)⟩
      · have M:i<s.size:=by omega
        have heb:((i:Int) == (s.size:Int))=ZA:=by simp;omega
        have l:=G.i i M;cases hgp:bI s[i] with
        |false =>
          have K:((s[i].toNat:Int) == 32)=ZA:=by
            have:¬ s[i]=32:=λe=>by rw[e] at hgp;exact absurd hgp (by decide)
            have h2:¬ s[i].toNat=32:=λe=>this (UInt8.toNat_inj.1 e);simp;omega
          have ZP:((s[i].toNat:Int) == 10)=ZA:=by
            have:¬ s[i]=10:=λe=>by rw[e] at hgp;exact absurd hgp (by decide)
            have h2:¬ s[i].toNat=10:=λe=>this (UInt8.toNat_inj.1 e);simp;omega
          have x:=ae hgp;clear hgp;rcases C with⟨rfl,g⟩|⟨f,rfl,z,_,q,g⟩
          · have b:=ae g;clear g l;go_wp2
            exact⟨⟨i+1,m,by omega,D,by go_num,rfl,t,.inr ⟨i,rfl,by omega,by omega,λj h h1 h2=>by
              obtain rfl:j=i:=by omega
              exact x,b⟩⟩,by first|(simp[intOf];done)|(simp[intOf];omega)⟩
          · have b:=ae g;have ZQ:=ae q;clear g l q;go_wp2
            exact⟨⟨i+1,m,by omega,D,by go_num,rfl,t,.inr ⟨f,rfl,by omega,by omega,λj h h1 h2=>by
              by_cases e:j=i;{subst e;exact x}
              · exact ZQ j h h1 (by omega),b⟩⟩,by first|(simp[intOf];done)|(simp[intOf];omega)⟩
        |true =>
          have ZO:((s[i].toNat:Int) == 32)=ZH\/(((s[i].toNat:Int) == 32)=ZA/\((s[i].toNat:Int) == 10)=ZH):=by
            have:s[i]=32\/s[i]=10:=by simpa[bI] using hgp
            rcases this with e|e;{left;rw[e];rfl};{right;rw[e];exact⟨rfl,rfl⟩}
          have x:=ae hgp;clear hgp;rcases ZO with K|⟨K,ZP⟩
          all_goals
            rcases C with⟨rfl,g⟩|⟨f,rfl,z,_,q,g⟩
            · have b:=ae g
              rw[l,sE x.i] at b;clear g l;go_wp2;exact⟨⟨i+1,m,by omega,D,by go_num,rfl,t,.inl ⟨rfl,b⟩⟩,by first|(simp[intOf];done)|(simp[intOf];omega)⟩
            · obtain⟨A,y⟩:=xS s f i z (by omega) q (.inr ⟨_,_,l,x⟩)
              have ZS:=ae A;have B:=ae y;have b:=ae g;rw[l] at B;clear q g A y l;by_cases u:m=0
              · subst u
                rw[ZS.i] at b;go_wp2;go_ret;refine⟨gH ?_,t⟩;unfold fV;rw[<-b.i]
              · have P:((m:Int) == 0)=ZA:=by simp[u]
                obtain⟨m,rfl⟩:∃H,m=H+1:=⟨m - 1,by omega⟩
                rw[B.i,sE x.i] at b;go_wp2;exact⟨⟨i+1,m,by omega,by omega,by go_num,by go_num,t,.inl ⟨rfl,b⟩⟩,by first|(simp[intOf];done)|(simp[intOf];omega)⟩
    · obtain rfl:i=s.size+1:=by omega
      rcases C with⟨rfl,g⟩|⟨f,rfl,z,hz,q,g⟩
      {have b:=ae g;rw[r.i _ (by omega),nA] at b;clear g;go_wp2;go_ret;refine⟨gH ?_,t⟩;unfold fV;rw[<-b.i]};{omega}
