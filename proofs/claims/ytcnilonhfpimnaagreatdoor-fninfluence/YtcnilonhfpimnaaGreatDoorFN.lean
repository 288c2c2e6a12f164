import Derived.Test.YtcnilonhfpimnaaGreatDoorFM
import Derived.Shelf.Strings.SlTrimAscii
import Derived.Lib.OthersKept
import Derived.Lib.TrimU
import Derived.Laws.Runes
import Derived.Deep.LoopGhost
import Derived.WalkMore
set_option linter.all false
set_option maxRecDepth 1000000
set_option maxHeartbeats 8000000
open Option renaming none->Z,some->Q
open Go renaming Value.string->U,Value.int->J,IntKind.i64->I,World->E,Ending.returned->ZI,World.heap->T,Proofs.Tryz.prog->Pg,Calls->Qw
open Bool renaming false->ZA,true->ZH
open Array renaming size->N
open List renaming length->Y
namespace Go.Proofs.YtcnilonhfpimnaaGreatDoor.Vp
open Tryz RowKit
variable {u r:List UInt8}
def uF{r:Int}(h:Utf8.valid r=ZH):Lib.validRune r=ZH:=by unfold Utf8.valid at h;unfold Lib.validRune;simp at *;omega
def uG (r:Int)(w:E)(h1:128<=r)(h2:r<=1114111)(h:Utf8.valid r=ZH)(o:¬ r=65533):Qw Pg 211 #[U ⟨#[32,10]⟩,J .i32 r] w λe p=>e=ZI (J I (-1))/\Below (N (T w)) w p:=by
 obtain⟨n,q,g⟩:=encode_facts r h h1;have j:=uF h;have hne:(r == 65533)=ZA:=by simp[o]
 have hcv:∀w:E,(convert 21 9 (J .i32 r)).run Pg w=.ok (U (Utf8.encode r)) w:=λw=>run_convert_int_string w _ _ _ _ (by rw[UE];rfl) ES;generalize Utf8.encode r=ZT at *;have hn1:((ZT.size:Int) - 1).toNat=ZT.size - 1:=by omega
 go_enter XV,ntmps211;go_wp2_with fail;refine(Tryz.utf8_ValidRune r _).P ?_;rintro e w1⟨rfl,rfl⟩;rw[j];go_wp2_with fail;go_step3;by_cases f:ZT.size=2
 ·have b:=g (by omega);obtain⟨⟨l⟩⟩:=ZT;obtain⟨x,y,rfl⟩:∃x y,l=[x,y]:=by
   match l,f with
   |[x,y],_=>exact⟨x,y,rfl⟩
  have hy:128<=y.toNat:=b;have hyn:((10:Int) != (y.toNat:Int))=ZH:=by simp;omega
  clear g b n q hn1 f;have i1:∀w:E,(Instr.index 9 (U ⟨#[32,10]⟩) (J I 1)).run Pg w=.ok (J .u8 10) w:=λw=>by kernel_rfl
  have i2:∀w:E,(Instr.index 9 (U ⟨⟨[x,y]⟩⟩) (J I 1)).run Pg w=.ok (J .u8 y.toNat) w:=λw=>by kernel_rfl
  have i3:∀w:E,(Instr.slice 9 (U ⟨#[32,10]⟩) (Q (J I 2)) Z Z).run Pg w=.ok (U ⟨#[]⟩) w:=λw=>by kernel_rfl
  go_wp2;go_loop [9] (λi=>i=J I 1) (λ_=>0);case atStart=>rfl
  case round =>
   subst hrel;go_wp2_with fail;go_step3;go_wp2_with fail;go_region_with fail;all_goals
    go_wp2_with fail;go_region_with (go_at_call 220;refine(Tryz.strings_IndexByte _ _ _).P ?_;rintro e w2⟨rfl,m⟩;subst m);all_goals
     go_wp2;rw[XO];go_wp2;rw[XO];go_wp2;go_ret;exact⟨rfl,(by repeat (first|exact a8 _ _|apply Below.drew))⟩
 ·have h4:¬ ((ZT.size:Int) - 1<2):=by omega
  go_wp2;go_loop [9] (λi=>i=J I ((ZT.size:Int) - 1)) (λ_=>0);case atStart=>rfl
  case round =>subst hrel;go_wp2;go_ret;exact⟨rfl,a8 _ _⟩
def tQ (w:E):Qw Pg 211 #[U ⟨#[32,10]⟩,J .i32 65533] w λe f=>e=ZI (J I (-1))/\Below (N (T w)) w f:=by
 have n0:=λty=>run_next_ascii (P:=Pg) w ⟨#[32,10]⟩ 0 ty (by decide) (by decide);have n1:=λty=>run_next_ascii (P:=Pg) w ⟨#[32,10]⟩ 1 ty (by decide) (by decide);have n2:=run_next_end (P:=Pg) w ⟨#[32,10]⟩ 2;go_enter XV,ntmps211;go_wp2;go_loopg [] 2 (λg b=>∃i:Nat,i+g=2/\b=w.iter ⟨#[32,10]⟩ i);case atStart=>exact⟨0,by omega,rfl⟩
 case round =>
  obtain⟨i,hig,rfl⟩:=hrel;rcases(show i=0\/i=1\/i=2 by omega) with rfl|rfl|rfl
  ·go_wp2;go_roundg 1;case measure=>omega
   case rel=>exact⟨1,by omega,rfl⟩
  ·go_wp2;go_roundg 0;case measure=>omega
   case rel=>exact⟨2,by omega,rfl⟩
  {go_wp2;go_ret;exact⟨rfl,(a8 _ w).alloc ly _⟩}
def Bf (s:F_)(pos:Nat)(hp:pos<s.size)(h:128<=(s.get! pos).toNat):128<=(Utf8.decode s pos).1/\Utf8.valid (Utf8.decode s pos).1=ZH/\pos+(Utf8.decode s pos).2<=s.size/\∀j,j<(Utf8.decode s pos).2->128<=(s.get! (pos+j)).toNat:=by
 rw[Lib.decode_at];have b0:=UInt8.toNat_lt (s.get! pos);unfold Lib.decodeN Utf8.valid;rw[eI (by omega)];repeat' split
 all_goals
  refine⟨by simp only;omega,by first|(simp;done)|(simp;omega),by simp only;omega,?_⟩;intro j b;simp only at b;rcases(show j=0\/j=1\/j=2\/j=3 by omega) with rfl|rfl|rfl|rfl;all_goals first|exact h|omega
def Bg (s:F_)(pos:Nat)(h:(s.get! pos).toNat<128):Utf8.decode s pos=((s.get! pos).toNat,1):=by rw[Lib.decode_at];unfold Lib.decodeN;rw[eT h]
def xR (s:F_)(i:Nat)(h:i<s.size):s.data.toList[i]?=Q (s.get! i):=by rw[Lib.data_getElem? s i h];obtain⟨a⟩:=s;exact xT Q (getElem!_pos a i h).c
def Er{s:F_}{pos:Nat}(K:Nat)(h:Lib.NoAny s.data.toList [32,10] pos)(hK:pos+K<=s.size)(f:∀j,j<K->128<=(s.get! (pos+j)).toNat):Lib.NoAny s.data.toList [32,10] (pos+K):=by
 intro j b hjk hb;by_cases e:j<pos;{exact h j b e hb};{have h2:=f (j - pos) (by omega);rw[show pos+(j - pos)=j by omega] at h2;rw[xR s j (by omega)] at hb;obtain rfl:=IH hb;simp;refine⟨?_,?_⟩;{intro e;rw[e] at h2;simp at h2};{intro e;rw[e] at h2;simp at h2}}
def rD (s:F_)(w:E)(h8:(s.size:Int)<=8):Qw Pg 205 #[U s,U ⟨#[32,10]⟩] w λe C=>e=ZI (J I (Lib.indexAny s.data.toList [32,10]))/\Below (N (T w)) w C:=by
 have ZR:decide ((8:Int)<(s.size:Int))=ZA:=U8 (by omega);go_enter func205,ntmps205;go_wp2_with fail;refine(Tryz.strings_shouldUseASCIISet _ _).P ?_;rintro e b⟨rfl,rfl⟩;rw[ZR];go_wp2;go_loopg [9,10] s.size (λg _ _ P=>∃pos:Nat,s.size<=pos+g/\P.heap[N (T b)]?=Q (.stringIter s pos)/\Below (N (T b)) b P/\Lib.NoAny s.data.toList [32,10] pos/\pos<=s.size);case atStart=>exact⟨0,by omega,World.iter_heap b s 0,(a8 _ b).alloc ly _,Lib.NoAny.zero _ _,by omega⟩
 case round =>
  obtain⟨pos,hpg,h,hbw,y,hps⟩:=hrel;have X:=ae h;have t:=ae y;have B:=ae hbw;clear hbw y;by_cases u:pos<s.size
  ·obtain⟨g,rfl⟩:∃g,gk=g+1:=⟨gk - 1,by omega⟩
   have i:∀ty,(Instr.next (.pointer (Q ⟨N (T b),0,Z⟩)) ZH ty).run Pg wr=_:=λty=>Lib.run_next_any_at wr (N (T b)) s pos ty h u;clear h;have m:=xR s pos u;obtain⟨x,p⟩:∃x,s.get! pos=x:=⟨_,rfl⟩
   by_cases H:x.toNat<128
   ·have ZT:=Bg s pos (by rw[p];exact H);rw[p] at ZT m;rw[ZT] at i;have ZP:=ae m;have j:=ae (Lib.iterAt_heap wr (N (T b)) s pos (pos+1) X);have n:=ae (Lib.below_iterAt B (k:=N (T b)) ly s (pos+1));have l:((x.toNat:Int)).toNat.toUInt8=x:=by simp
    have f:=Lib.contains_iff_indexByte [32,10] x;clear ZT m p;cases hin:([32,10]:List UInt8).contains x with
    |false =>
     rw[hin] at f;have hlt:¬ ((0:Int)<=Lib.indexByte [32,10] x):=VB f.c;have G:=ae hin;clear f hin;go_wp2_with fail;refine(Tryz.strings_IndexRune_ascii _ _ _ (by omega) (by omega)).P ?_;rintro e ZO⟨rfl,o⟩;rw[o,l];clear o;go_wp2;go_roundg g;case measure=>omega
     case rel=>exact⟨pos+1,by omega,j,n,t.succ ZP G,by omega⟩
    |true =>rw[hin] at f;have hge:(0:Int)<=Lib.indexByte [32,10] x:=OT f.c;have G:=ae hin;clear f hin;go_wp2_with fail;refine(Tryz.strings_IndexRune_ascii _ _ _ (by omega) (by omega)).P ?_;rintro e ZO⟨rfl,o⟩;rw[o,l];clear o;go_wp2;go_ret;exact⟨by rw[Lib.indexAny_hit t.i ZP.i G.i];rfl,n⟩
   ·obtain⟨ZM,ZQ,ZN,D⟩:=Bf s pos u (by rw[p];omega);have ZS:=Lib.rune_le s pos;have S:=Lib.width_pos s pos;obtain⟨R,hR⟩:∃R,(Utf8.decode s pos).1=R:=⟨_,rfl⟩
    obtain⟨K,V⟩:∃K,(Utf8.decode s pos).2=K:=⟨_,rfl⟩
    rw[hR] at ZM ZQ ZS i;rw[V] at ZN D S i;have O:=ae (Er K t ZN D);have j:=ae (Lib.iterAt_heap wr (N (T b)) s pos (pos+K) X);have n:=ae (Lib.below_iterAt B (k:=N (T b)) ly s (pos+K));have z:N (T b)<(wr.iterAt (N (T b)) s (pos+K)).heap.size:=(CV.1 j).1;clear D m p hR V;have A:∀W:E,Qw Pg 211 #[U ⟨#[32,10]⟩,J .i32 (R:Int)] W λe C=>e=ZI (J I (-1))/\Below (N (T W)) W C:=by
     intro W;by_cases r:(R:Int)=65533;{rw[r];exact tQ W};{exact uG _ W (by omega) (by omega) ZQ r}
    have L:=ae A;clear A;go_wp2_with fail;refine(L _).P ?_;rintro e ZO⟨rfl,q⟩;have M:=ae (n.k (q.P (TQ z)));have ZL:=ae ((q.p (N (T b)) z).k j);clear q;go_wp2;go_roundg g;case measure=>omega
    case rel=>exact⟨pos+K,by omega,ZL,M,O,by omega⟩
  ·have i:∀ty,(Instr.next (.pointer (Q ⟨N (T b),0,Z⟩)) ZH ty).run Pg wr=_:=λty=>Lib.run_next_end_at wr (N (T b)) s pos ty h u;clear h;have e:pos=s.size:=by omega
   subst e;go_wp2;go_ret;exact⟨by rw[Lib.indexAny_none (by rw[<-Lib.size_eq];exact t)];rfl,B⟩
def qq:∀(j:Nat) b,(([32,10]:List UInt8))[j]?=Q b->b.toNat<128:=by
 intro j b h;match j with
 |0=>simp at h;subst h;decide
 |1=>simp at h;subst h;decide
 |j+2=>simp at h
def uH (s:F_)(w:E)(f:s.size<4294967281):Qw Pg 205 #[U s,U ⟨#[32,10]⟩] w λe b=>e=ZI (J I (Lib.indexAny s.data.toList [32,10]))/\Below (N (T w)) w b:=by
 by_cases h:(s.size:Int)<=8;{exact rD s w h};{refine(Tryz.strings_IndexAny_long (zero_of_info (n:=256) (by kernel_rfl)).1 s ⟨#[32,10]⟩ w (by decide) (by omega) f (by decide) qq).P ?_;rintro e b⟨rfl,rfl⟩;exact⟨rfl,(br.alloc ly _).alloc (by simp) _⟩}
def uI (s:F_)(w:E):Qw Pg 204 #[U s,U ⟨#[32,10]⟩] w λe b=>e=ZI (U ⟨(Lib.trimLeftS s.data.toList [32,10]).toArray⟩)/\Below (N (T w)) w b:=
 Any.strings_TrimLeft_laid lays161 (by kernel_rfl) s ⟨#[32,10]⟩ w (by decide) qq
def bI (c:UInt8):Bool:=([32,10]:List UInt8).contains c
def cE:List UInt8->Nat->List UInt8
 |l,0=>(l.dropWhile bI).takeWhile (λc=>!bI c)
 |l,n+1=>if (l.dropWhile bI).takeWhile (λc=>!bI c)=[] then [] else cE ((l.dropWhile bI).dropWhile (λc=>!bI c)) n
def fV (s:F_)(n:Nat):F_:=⟨(cE s.data.toList n).toArray⟩
def ny (l:List UInt8)(n:Nat):cE l n=match n with
 |0=>(l.dropWhile bI).takeWhile (λc=>!bI c)
 |n+1=>if (l.dropWhile bI).takeWhile (λc=>!bI c)=[] then [] else cE ((l.dropWhile bI).dropWhile (λc=>!bI c)) n:=by
 cases n<;>simp[cE]
def tR (l:List UInt8):(Lib.indexAny l [32,10]=-1/\l.takeWhile (λc=>!bI c)=l)\/∃k:Nat,Lib.indexAny l [32,10]=k/\k<Y l/\l.takeWhile (λc=>!bI c)=l.take k/\l.dropWhile (λc=>!bI c)=l.drop k:=by
 induction l with
 |nil=>exact .inl ⟨rfl,rfl⟩
 |cons b l h =>
  by_cases hb:bI b=ZH;{refine .inr ⟨0,?_,by simp,by simp[hb],by simp[hb]⟩;have f:([32,10]:List UInt8).contains b=ZH:=hb;rw[Lib.indexAny,eT f];rfl}
  ·have f:¬ ([32,10]:List UInt8).contains b=ZH:=hb;rcases h with⟨h1,h2⟩|⟨k,h1,h2,g,i⟩
   {refine .inl ⟨?_,by simp[hb,h2]⟩;rw[Lib.indexAny,eI f,h1];rfl};{refine .inr ⟨k+1,?_,by simp[h2],by simp[hb,g],by simp[hb,i]⟩;rw[Lib.indexAny,eI f,h1,eI (by simp<;>omega)];simp}
def fB (l:List UInt8)(p:UInt8->Bool):(l.dropWhile p).length<=Y l:=by
 induction l with
 |nil=>simp
 |cons b l ih =>
  rw[XR];split;{simp;omega};{simp}
def qt (s:F_)(n:Nat)(w:E)(R:s.size<=2000)(hn:n<=2000):Qw Pg 201 #[U s,J I n] w λe P=>e=ZI (U (fV s n))/\Below (N (T w)) w P:=by
 go_enter func201,ntmps201;go_wp2;go_loopw [0,1] (λZN B wr=>∃(t:F_) (k:Nat),ZN=U t/\B=J I k/\t.size<=2000/\k<=2000/\cE t.data.toList k=cE s.data.toList n/\Below (N (T w)) w wr) (λ_ B _=>(intOf B).toNat);case atStart=>exact⟨s,n,rfl,rfl,R,hn,rfl,a8 _ _⟩
 case round =>
  obtain⟨t,k,rfl,rfl,ht,hk,ZS,D⟩:=hrel;have m:=ae ZS;have ZQ:=ae D;have K:=D.size;clear ZS D;go_wp2_with fail;refine(uI t _).P ?_;rintro e w1⟨rfl,y⟩;have r:=ae (ZQ.k (y.P K));clear y;obtain⟨ZP,A⟩:∃ZP:F_,ZP=⟨(Lib.trimLeftS t.data.toList [32,10]).toArray⟩:=⟨_,rfl⟩
  rw[<-A];have q:ZP.data.toList=t.data.toList.dropWhile bI:=by rw[A];rfl
  have x:ZP.size=Y ZP.data.toList:=rfl;have hTz:ZP.size<=2000:=by have h1:=fB t.data.toList bI;have h2:Y t.data.toList=t.size:=rfl;rw[x,q];omega
  have C:=r.size;have j:=ae q;clear A q x;go_wp2_with fail;refine(uH ZP _ (by omega)).P ?_;rintro e w2⟨rfl,u⟩;have f:=ae (r.k (u.P C));clear u;rcases tR ZP.data.toList with⟨hz,o⟩|⟨ZT,hz,ZR,o,L⟩
  ·rw[hz];have g:=ae o;clear hz o;by_cases h:k=0;{subst h;go_wp2;go_ret;refine⟨gH ?_,f⟩;unfold fV;rw[<-m.i,cE,<-j.i,g.i]}
   ·have H:((k:Int) == 0)=ZA:=by simp[h]
    obtain⟨k,rfl⟩:∃G,k=G+1:=⟨k - 1,by omega⟩
    by_cases b:ZP.size=0
    ·have z:((ZP.size:Int) == 0)=ZH:=by simp[b]
     go_wp2;go_ret;refine⟨gH ?_,f⟩;unfold fV;rw[<-m.i,cE,<-j.i,g.i];have:ZP.data.toList=[]:=List.eq_nil_of_length_eq_zero b;rw[eT this];rfl
    ·have z:((ZP.size:Int) == 0)=ZA:=by simp[b]
     have i:¬ ZP.data.toList=[]:=λe=>b (by show (Y ZP.data.toList)=0;rw[e];rfl);go_wp2
     exact⟨⟨⟨#[]⟩,k,rfl,by go_num,by decide,by omega,by
      rw[<-m.i,cE,<-j.i,g.i,eI i];congr 1;have:=List.takeWhile_append_dropWhile (p:=λc=>!bI c) (l:=ZP.data.toList);rw[g.i] at this
      simpa using this.c,f.i⟩,by first|(simp[intOf];done)|(simp[intOf];omega)⟩
  ·rw[hz];have hE':ZT<ZP.size:=ZR;have g:=ae o;have M:=ae L;clear hz o L ZR;have S:Hid ((ZP.extract 0 ZT).data.toList=ZP.data.toList.take ZT):=by show(ZP.extract 0 ZT).data.toList=ZP.data.toList.take ZT;simp
   have O:Hid ((ZP.extract ZT ZP.size).data.toList=ZP.data.toList.drop ZT):=by show(ZP.extract ZT ZP.size).data.toList=ZP.data.toList.drop ZT;simp only[ByteArray.data_extract,Array.toList_extract,List.extract_eq_take_drop];exact NU (by rw[NN];exact p7 _)
   by_cases h:k=0;{subst h;go_wp2;go_ret;refine⟨gH ?_,f⟩;unfold fV;rw[<-m.i,cE,<-j.i,g.i,<-S.i]}
   ·have H:((k:Int) == 0)=ZA:=by simp[h]
    obtain⟨k,rfl⟩:∃G,k=G+1:=⟨k - 1,by omega⟩
    by_cases b:ZT=0;{subst b;go_wp2;go_ret;refine⟨gH ?_,f⟩;unfold fV;rw[<-m.i,cE,<-j.i,g.i];simp;rfl}
    ·have z:((ZT:Int) == 0)=ZA:=by simp[b]
     have i:¬ ZP.data.toList.take ZT=[]:=λe=>by
      have ZO:(ZP.data.toList.take ZT).length=0:=by rw[e];rfl
      have h6:Y ZP.data.toList=ZP.size:=rfl;rw[N9] at ZO;omega
     go_wp2
     exact⟨⟨_,k,rfl,by go_num,by simp;omega,by omega,by
      rw[<-m.i,cE,<-j.i,g.i,eI i,M.i,O.i],f.i⟩,by first|(simp[intOf];done)|(simp[intOf];omega)⟩
def nA (m:Nat):cE [] m=[]:=by cases m<;>simp[cE]
def sE{c:UInt8}{l:List UInt8}(h:bI c=ZH)(m:Nat):cE (c::l) m=cE l m:=by rw[ny,ny l];simp only[XR,h,Y2]
def qu (i:u≠[])(h:∀c∈u,bI c=ZA)(g:r=[]\/∃c l,r=c::l/\bI c=ZH):(u++r).dropWhile bI=u++r/\(u++r).takeWhile (λc=>!bI c)=u/\(u++r).dropWhile (λc=>!bI c)=r:=by
 obtain⟨c,u',rfl⟩:=List.exists_cons_of_ne_nil i;refine⟨?_,?_,?_⟩;{rw[OV,XR,eI (by simp[h c (by simp)])]}
 ·rw[List.takeWhile_append_of_pos (λa f=>by simp[h a f])];rcases g with rfl|⟨d,l,rfl,b⟩
  {simp};{simp[b]}
 ·rw[List.dropWhile_append_of_pos (λa f=>by simp[h a f])];rcases g with rfl|⟨d,l,rfl,b⟩
  {simp};{simp[b]}
def zo (f:u≠[])(h:∀c∈u,bI c=ZA)(b:r=[]\/∃c l,r=c::l/\bI c=ZH):cE (u++r) 0=u:=by obtain⟨h1,h2,h3⟩:=qu f h b;rw[cE,h1,h2]
def zp (b:u≠[])(h:∀c∈u,bI c=ZA)(g:r=[]\/∃c l,r=c::l/\bI c=ZH)(m:Nat):cE (u++r) (m+1)=cE r m:=by obtain⟨h1,h2,f⟩:=qu b h g;rw[cE,h1,h2,f,eI b]
def xS (s:F_)(f i:Nat)(hf:f<i)(hi:i<=s.size)(q:∀j,(h:j<s.size)->f<=j->j<i->bI s[j]=ZA)(g:s.data.toList.drop i=[]\/∃c l,s.data.toList.drop i=c::l/\bI c=ZH):cE (s.data.toList.drop f) 0=(s.extract f i).data.toList/\∀m,cE (s.data.toList.drop f) (m+1)=cE (s.data.toList.drop i) m:=by
 have hL:Y s.data.toList=s.size:=rfl;have e:s.data.toList.drop f=(s.data.toList.drop f).take (i - f)++s.data.toList.drop i:=by
  conv=>lhs;rw[<-QN (i - f) (s.data.toList.drop f)]
  rw[List.drop_drop];congr 2;omega
 have p:(s.extract f i).data.toList=(s.data.toList.drop f).take (i - f):=by simp only[ByteArray.data_extract,Array.toList_extract,List.extract_eq_take_drop]
 have n:(s.data.toList.drop f).take (i - f)≠[]:=by
  intro e;have r:((s.data.toList.drop f).take (i - f)).length=0:=by rw[e];rfl
  rw[N9,NN] at r;omega
 have b:∀c∈(s.data.toList.drop f).take (i - f),bI c=ZA:=by intro c b;obtain⟨j,o,rfl⟩:=List.mem_iff_getElem.1 b;rw[N9,NN] at o;have:=q (f+j) (by omega) (by omega) (by omega);simp only[List.getElem_take,VZ,Array.getElem_toList];exact this
 refine⟨?_,λm=>?_⟩
 ·rw[p];conv=>lhs;rw[e]
  exact zo n b g
 ·conv=>lhs;rw[e]
  exact zp n b g m
def xh (s:F_)(n:Nat)(w:E)(hs:s.size<=2000)(hn:n<=2000):Qw Pg 163 #[U s,J I n] w λe ZP=>e=ZI (U (fV s n))/\Below (N (T w)) w ZP:=by
  have hL:Y s.data.toList=s.size:=rfl;have p:∀i:Nat,(h:i<s.size)->s.data.toList.drop i=s[i]::s.data.toList.drop (i+1):=λi h=>UX (by rw[hL];exact h);have H:=ae p;have o:∀i:Nat,s.size<=i->s.data.toList.drop i=[]:=λi h=>List.drop_eq_nil_of_le (by rw[hL];exact h);have t:=ae o;clear p o;go_enter func163,ntmps163;go_wp2
  go_loopw [1,5,6] (λZN K ZS wr=>∃(i m:Nat),i<=s.size+1/\m<=2000/\ZS=J I i/\ZN=J I m/\Below (N (T w)) w wr /\
      ((K=J I (-1)/\cE (s.data.toList.drop i) m=cE s.data.toList n) \/
       ∃f:Nat,K=J I f/\f<i/\i<=s.size/\(∀j,(h:j<s.size)->f<=j->j<i->bI s[j]=ZA)/\cE (s.data.toList.drop f) m=cE s.data.toList n)) (λ_ _ ZS _=>s.size+1 - (intOf ZS).toNat)
  case atStart=>exact⟨0,n,by omega,hn,rfl,rfl,a8 _ _,.inl ⟨rfl,rfl⟩⟩
  case round =>
    obtain⟨i,m,hi,C,rfl,rfl,ZQ,D⟩:=hrel;have q:=ae ZQ;clear ZQ;by_cases hle:i<=s.size
    · by_cases ZO:i=s.size
      · subst ZO;have l:=t.i s.size ly;have ZT:=t.i (s.size+1) (by omega);rcases D with⟨rfl,b⟩|⟨f,rfl,A,_,r,b⟩
        {have g:=ae b;rw[l,nA] at g;clear b l;go_wp2;exact⟨⟨s.size+1,m,by omega,C,by go_num,rfl,q,.inl ⟨rfl,by rw[ZT,nA];exact g⟩⟩,by first|(simp[intOf];done)|(simp[intOf];omega)⟩}
        · obtain⟨z,y⟩:=xS s f s.size A ly r (.inl l);have ZR:=ae z;have B:=ae y;have g:=ae b;clear r b z y;rw[l] at B;clear l;by_cases u:m=0;{subst u;rw[ZR.i] at g;go_wp2;go_ret;refine⟨gH ?_,q⟩;unfold fV;rw[<-g.i]}
          · have P:((m:Int) == 0)=ZA:=by simp[u]
            obtain⟨m,rfl⟩:∃G,m=G+1:=⟨m - 1,by omega⟩
            go_wp2;exact⟨⟨s.size+1,m,by omega,by omega,by go_num,by go_num,q,.inl ⟨rfl,by rw[ZT,<-B.i];exact g⟩⟩,by first|(simp[intOf];done)|(simp[intOf];omega)⟩
      · have L:i<s.size:=by omega
        have heb:((i:Int) == (s.size:Int))=ZA:=by simp;omega
        have l:=H.i i L;cases hgp:bI s[i] with
        |false =>
          have O:((s[i].toNat:Int) == 32)=ZA:=by
            have:¬ s[i]=32:=λe=>by rw[e] at hgp;exact absurd hgp (by decide)
            have h2:¬ s[i].toNat=32:=λe=>this (UInt8.toNat_inj.1 e);simp;omega
          have S:((s[i].toNat:Int) == 10)=ZA:=by
            have:¬ s[i]=10:=λe=>by rw[e] at hgp;exact absurd hgp (by decide)
            have h2:¬ s[i].toNat=10:=λe=>this (UInt8.toNat_inj.1 e);simp;omega
          have x:=ae hgp;clear hgp;rcases D with⟨rfl,b⟩|⟨f,rfl,A,_,r,b⟩
          · have g:=ae b;clear b l;go_wp2
            exact⟨⟨i+1,m,by omega,C,by go_num,rfl,q,.inr ⟨i,rfl,by omega,by omega,λj h h1 h2=>by
              obtain rfl:j=i:=by omega
              exact x,g⟩⟩,by first|(simp[intOf];done)|(simp[intOf];omega)⟩
          · have g:=ae b;have M:=ae r;clear b l r;go_wp2
            exact⟨⟨i+1,m,by omega,C,by go_num,rfl,q,.inr ⟨f,rfl,by omega,by omega,λj h h1 h2=>by
              by_cases e:j=i;{subst e;exact x}
              · exact M j h h1 (by omega),g⟩⟩,by first|(simp[intOf];done)|(simp[intOf];omega)⟩
        |true =>
          have R:((s[i].toNat:Int) == 32)=ZH\/(((s[i].toNat:Int) == 32)=ZA/\((s[i].toNat:Int) == 10)=ZH):=by
            have:s[i]=32\/s[i]=10:=by simpa[bI] using hgp
            rcases this with e|e;{left;rw[e];rfl};{right;rw[e];exact⟨rfl,rfl⟩}
          have x:=ae hgp;clear hgp;rcases R with O|⟨O,S⟩
          all_goals
            rcases D with⟨rfl,b⟩|⟨f,rfl,A,_,r,b⟩
            · have g:=ae b
              rw[l,sE x.i] at g;clear b l;go_wp2;exact⟨⟨i+1,m,by omega,C,by go_num,rfl,q,.inl ⟨rfl,g⟩⟩,by first|(simp[intOf];done)|(simp[intOf];omega)⟩
            · obtain⟨z,y⟩:=xS s f i A (by omega) r (.inr ⟨_,_,l,x⟩)
              have ZR:=ae z;have B:=ae y;have g:=ae b;rw[l] at B;clear r b z y l;by_cases u:m=0
              · subst u
                rw[ZR.i] at g;go_wp2;go_ret;refine⟨gH ?_,q⟩;unfold fV;rw[<-g.i]
              · have P:((m:Int) == 0)=ZA:=by simp[u]
                obtain⟨m,rfl⟩:∃G,m=G+1:=⟨m - 1,by omega⟩
                rw[B.i,sE x.i] at g;go_wp2;exact⟨⟨i+1,m,by omega,by omega,by go_num,by go_num,q,.inl ⟨rfl,g⟩⟩,by first|(simp[intOf];done)|(simp[intOf];omega)⟩
    · obtain rfl:i=s.size+1:=by omega
      rcases D with⟨rfl,b⟩|⟨f,rfl,A,hz,r,b⟩
      {have g:=ae b;rw[t.i _ (by omega),nA] at g;clear b;go_wp2;go_ret;refine⟨gH ?_,q⟩;unfold fV;rw[<-g.i]};{omega}
