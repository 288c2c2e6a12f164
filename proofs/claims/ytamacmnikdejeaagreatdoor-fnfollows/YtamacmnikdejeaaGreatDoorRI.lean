import Derived.Test.YtamacmnikdejeaaGreatDoorSD
import Derived.Test.YtamacmnikdejeaaGreatDoorSV
import Derived.Shelf.Strings.SlTrimAscii
import Derived.Lib.OthersKept
import Derived.Lib.TrimU
import Derived.Laws.Runes
import Derived.Deep.LoopGhost
import Derived.WalkMore
set_option maxRecDepth 1000000
set_option maxHeartbeats 8000000
open Option renaming none->Z,some->T
open Go.Value renaming string->U,int->J
open Go.IntKind renaming i64->I
open Go renaming World->G
open Bool renaming false->QB,true->QD
open Go.Ending renaming returned->QF
namespace Go.Proofs.YtamacmnikdejeaaGreatDoor.Vp
open RowKit
theorem sG {r:Int}(h:Utf8.valid r=QD):Lib.validRune r=QD:=by unfold Utf8.valid at h;unfold Lib.validRune;simp at *;omega
theorem sH (r:Int)(w:G)(h1:128<=r)(h2:r<=1114111)(g:Utf8.valid r=QD)(n:¬ r=65533):Calls Tryz.prog 233 #[U ⟨#[32,10]⟩,J .i32 r] w fun e q=>e=QF (J I (-1))/\Below w.heap.size w q:=by
 obtain⟨o,p,m⟩:=encode_facts r g h1;have h:=sG g;have hne:(r == 65533)=QB:=by simp[n]
 have hcv:∀ w:G,(convert 21 9 (J .i32 r)).run Tryz.prog w=.ok (U (Utf8.encode r)) w:=fun w=>run_convert_int_string w _ _ _ _ (by rw[Tryz.underlying21];rfl) Tryz.underlying9;generalize Utf8.encode r=E at *;have hn1:((E.size:Int) - 1).toNat=E.size - 1:=by omega
 go_enter Tryz.func233,Tryz.ntmps233;go_wp2_with fail;refine(Tryz.utf8_ValidRune r _).mono ?_;rintro e w1 ⟨rfl,rfl⟩;rw[h];go_wp2_with fail;go_step3;by_cases f:E.size=2
 ·have b:=m (by omega)
  obtain⟨⟨l⟩⟩:=E;obtain⟨x,y,rfl⟩:∃ x y,l=[x,y]:=by
   match l,f with
   | [x,y],_=>exact⟨x,y,rfl⟩
  have hy:128<=y.toNat:=b;have hyn:((10:Int) != (y.toNat:Int))=QD:=by simp;omega
  clear m b o p hn1 f;have i1:∀ w:G,(Instr.index 9 (U ⟨#[32,10]⟩) (J I 1)).run Tryz.prog w=.ok (J .u8 10) w:=fun w=>by kernel_rfl
  have i2:∀ w:G,(Instr.index 9 (U ⟨⟨[x,y]⟩⟩) (J I 1)).run Tryz.prog w=.ok (J .u8 y.toNat) w:=fun w=>by kernel_rfl
  have i3:∀ w:G,(Instr.slice 9 (U ⟨#[32,10]⟩) (T (J I 2)) Z Z).run Tryz.prog w=.ok (U ⟨#[]⟩) w:=fun w=>by kernel_rfl
  go_wp2;go_loop [9] (fun i=>i=J I 1) (fun _=>0);case atStart=>rfl
  case round =>
   subst hrel;go_wp2_with fail;go_step3;go_wp2_with fail;go_region_with fail;all_goals
    go_wp2_with fail;go_region_with (go_at_call 242;refine(Tryz.strings_IndexByte _ _ _).mono ?_;rintro e w2 ⟨rfl,j⟩;subst j);all_goals
     go_wp2;rw[JM];go_wp2;rw[JM];go_wp2;go_ret;exact⟨rfl,(by repeat (first | exact a8 _ _ | apply Below.drew))⟩
 ·have h4:¬ ((E.size:Int) - 1<2):=by omega
  go_wp2;go_loop [9] (fun i=>i=J I ((E.size:Int) - 1)) (fun _=>0);case atStart=>rfl
  case round =>subst hrel;go_wp2;go_ret;exact⟨rfl,a8 _ _⟩
theorem rL (w:G):Calls Tryz.prog 233 #[U ⟨#[32,10]⟩,J .i32 65533] w fun e f=>e=QF (J I (-1))/\Below w.heap.size w f:=by
 have n0:=fun ty=>run_next_ascii (P:=Tryz.prog) w ⟨#[32,10]⟩ 0 ty (by decide) (by decide);have n1:=fun ty=>run_next_ascii (P:=Tryz.prog) w ⟨#[32,10]⟩ 1 ty (by decide) (by decide);have n2:=run_next_end (P:=Tryz.prog) w ⟨#[32,10]⟩ 2;go_enter Tryz.func233,Tryz.ntmps233;go_wp2;go_loopg [] 2 (fun g b=>∃ i:Nat,i+g=2/\b=w.iter ⟨#[32,10]⟩ i);case atStart=>exact⟨0,by omega,rfl⟩
 case round =>
  obtain⟨i,hig,rfl⟩:=hrel;rcases(show i=0∨i=1∨i=2 by omega) with rfl | rfl | rfl
  ·go_wp2
   go_roundg 1;case measure=>omega
   case rel=>exact⟨1,by omega,rfl⟩
  ·go_wp2
   go_roundg 0;case measure=>omega
   case rel=>exact⟨2,by omega,rfl⟩
  ·go_wp2
   go_ret;exact⟨rfl,(a8 _ w).alloc ly _⟩
theorem x9 (s:ByteArray)(pos:Nat)(hp:pos<s.size)(h:128<=(s.get! pos).toNat):128<=(Utf8.decode s pos).1/\Utf8.valid (Utf8.decode s pos).1=QD/\pos+(Utf8.decode s pos).2<=s.size/\∀ j,j<(Utf8.decode s pos).2->128<=(s.get! (pos+j)).toNat:=by
 rw[Lib.decode_at];have b0:=UInt8.toNat_lt (s.get! pos);unfold Lib.decodeN Utf8.valid;rw[cM (by omega)];repeat' split
 all_goals
  refine⟨by simp only;omega,by first | (simp;done) | (simp;omega),by simp only;omega,?_⟩;intro j b;simp only at b;rcases(show j=0∨j=1∨j=2∨j=3 by omega) with rfl | rfl | rfl | rfl;all_goals first | exact h | omega
theorem ya (s:ByteArray)(pos:Nat)(h:(s.get! pos).toNat<128):Utf8.decode s pos=((s.get! pos).toNat,1):=by rw[Lib.decode_at];unfold Lib.decodeN;rw[gM h]
theorem vb (s:ByteArray)(i:Nat)(h:i<s.size):s.data.toList[i]?=T (s.get! i):=by rw[Lib.data_getElem? s i h];obtain⟨a⟩:=s;exact BC T (getElem!_pos a i h).symm
theorem zU {s:ByteArray}{pos:Nat}(K:Nat)(h:Lib.NoAny s.data.toList [32,10] pos)(hK:pos+K<=s.size)(f:∀ j,j<K->128<=(s.get! (pos+j)).toNat):Lib.NoAny s.data.toList [32,10] (pos+K):=by
 intro j b hjk hb;by_cases e:j<pos
 ·exact h j b e hb
 ·have h2:=f (j - pos) (by omega)
  rw[show pos+(j - pos)=j by omega] at h2;rw[vb s j (by omega)] at hb;obtain rfl:=DC hb;simp;refine⟨?_,?_⟩
  ·intro e;rw[e] at h2;simp at h2
  ·intro e;rw[e] at h2;simp at h2
theorem pQ (s:ByteArray)(w:G)(h8:(s.size:Int)<=8):Calls Tryz.prog 227 #[U s,U ⟨#[32,10]⟩] w fun e H=>e=QF (J I (Lib.indexAny s.data.toList [32,10]))/\Below w.heap.size w H:=by
 have QN:decide ((8:Int)<(s.size:Int))=QB:=JS (by omega);go_enter Tryz.func227,Tryz.ntmps227;go_wp2_with fail;refine(Tryz.strings_shouldUseASCIISet _ _).mono ?_;rintro e b ⟨rfl,rfl⟩;rw[QN];go_wp2;go_loopg [9,10] s.size (fun g _ _ O=>∃ pos:Nat,s.size<=pos+g/\O.heap[b.heap.size]?=T (.stringIter s pos)/\Below b.heap.size b O/\Lib.NoAny s.data.toList [32,10] pos/\pos<=s.size);case atStart=>exact⟨0,by omega,World.iter_heap b s 0,(a8 _ b).alloc ly _,Lib.NoAny.zero _ _,by omega⟩
 case round =>
  obtain⟨pos,hpg,h,hbw,A,hps⟩:=hrel;have QM:=ae h;have u:=ae A;have E:=ae hbw;clear hbw A;by_cases t:pos<s.size
  ·obtain⟨g,rfl⟩:∃ g,gk=g+1:=⟨gk - 1,by omega⟩
   have n:∀ ty,(Instr.next (.pointer (T ⟨b.heap.size,0,Z⟩)) QD ty).run Tryz.prog wr=_:=fun ty=>Lib.run_next_any_at wr b.heap.size s pos ty h t;clear h;have m:=vb s pos t;obtain⟨x,o⟩:∃ x,s.get! pos=x:=⟨_,rfl⟩
   by_cases B:x.toNat<128
   ·have D:=ya s pos (by rw[o];exact B)
    rw[o] at D m;rw[D] at n;have QP:=ae m;have i:=ae (Lib.iterAt_heap wr b.heap.size s pos (pos+1) QM);have j:=ae (Lib.below_iterAt E (k:=b.heap.size) ly s (pos+1));have l:((x.toNat:Int)).toNat.toUInt8=x:=by simp
    have f:=Lib.contains_iff_indexByte [32,10] x;clear D m o;cases hin:([32,10]:List UInt8).contains x with
    | false =>
     rw[hin] at f;have hlt:¬ ((0:Int)<=Lib.indexByte [32,10] x):=NM f.symm;have QR:=ae hin;clear f hin;go_wp2_with fail;refine(Tryz.strings_IndexRune_ascii _ _ _ (by omega) (by omega)).mono ?_;rintro e V ⟨rfl,r⟩;rw[r,l];clear r;go_wp2;go_roundg g;case measure=>omega
     case rel=>exact⟨pos+1,by omega,i,j,u.succ QP QR,by omega⟩
    | true =>rw[hin] at f;have hge:(0:Int)<=Lib.indexByte [32,10] x:=JE f.symm;have QR:=ae hin;clear f hin;go_wp2_with fail;refine(Tryz.strings_IndexRune_ascii _ _ _ (by omega) (by omega)).mono ?_;rintro e V ⟨rfl,r⟩;rw[r,l];clear r;go_wp2;go_ret;exact⟨by rw[Lib.indexAny_hit u.out QP.out QR.out];rfl,j⟩
   ·obtain⟨QJ,QL,S,C⟩:=x9 s pos t (by rw[o];omega)
    have L:=Lib.rune_le s pos;have QH:=Lib.width_pos s pos;obtain⟨R,hR⟩:∃ R,(Utf8.decode s pos).1=R:=⟨_,rfl⟩
    obtain⟨K,X⟩:∃ K,(Utf8.decode s pos).2=K:=⟨_,rfl⟩
    rw[hR] at QJ QL L n;rw[X] at S C QH n;have QK:=ae (zU K u S C);have i:=ae (Lib.iterAt_heap wr b.heap.size s pos (pos+K) QM);have j:=ae (Lib.below_iterAt E (k:=b.heap.size) ly s (pos+K));have y:b.heap.size<(wr.iterAt b.heap.size s (pos+K)).heap.size:=(BO.1 i).1;clear C m o hR X;have z:∀ W:G,Calls Tryz.prog 233 #[U ⟨#[32,10]⟩,J .i32 (R:Int)] W fun e H=>e=QF (J I (-1))/\Below W.heap.size W H:=by
     intro W;by_cases p:(R:Int)=65533
     ·rw[p]
      exact rL W
     ·exact sH _ W (by omega) (by omega) QL p
    have QO:=ae z;clear z;go_wp2_with fail;refine(QO _).mono ?_;rintro e V ⟨rfl,q⟩;have P:=ae (j.trans (q.mono (LJ y)));have M:=ae ((q.block b.heap.size y).trans i);clear q;go_wp2;go_roundg g;case measure=>omega
    case rel=>exact⟨pos+K,by omega,M,P,QK,by omega⟩
  ·have n:∀ ty,(Instr.next (.pointer (T ⟨b.heap.size,0,Z⟩)) QD ty).run Tryz.prog wr=_:=fun ty=>Lib.run_next_end_at wr b.heap.size s pos ty h t
   clear h;have e:pos=s.size:=by omega
   subst e;go_wp2;go_ret;exact⟨by rw[Lib.indexAny_none (by rw[<-Lib.size_eq];exact u)];rfl,E⟩
theorem oX:∀ (j:Nat) b,(([32,10]:List UInt8))[j]?=T b->b.toNat<128:=by
 intro j b h;match j with
 | 0=>simp at h;subst h;decide
 | 1=>simp at h;subst h;decide
 | j+2=>simp at h
theorem sI (s:ByteArray)(w:G)(f:s.size<4294967281):Calls Tryz.prog 227 #[U s,U ⟨#[32,10]⟩] w fun e b=>e=QF (J I (Lib.indexAny s.data.toList [32,10]))/\Below w.heap.size w b:=by
 by_cases h:(s.size:Int)<=8
 ·exact pQ s w h
 ·refine(Tryz.strings_IndexAny_long (zero_of_info (n:=256) (by kernel_rfl)).1 s ⟨#[32,10]⟩ w (by decide) (by omega) f (by decide) oX).mono ?_
  rintro e b ⟨rfl,rfl⟩;exact⟨rfl,(br.alloc ly _).alloc (by simp) _⟩
theorem sJ (s:ByteArray)(w:G):Calls Tryz.prog 226 #[U s,U ⟨#[32,10]⟩] w fun e b=>e=QF (U ⟨(Lib.trimLeftS s.data.toList [32,10]).toArray⟩)/\Below w.heap.size w b :=
 Any.strings_TrimLeft_laid Tryz.lays161 (by kernel_rfl) s ⟨#[32,10]⟩ w (by decide) oX
def bE (c:UInt8):Bool:=([32,10]:List UInt8).contains c
def bX:List UInt8->Nat->List UInt8
 | l,0=>(l.dropWhile bE).takeWhile (fun c=>!bE c)
 | l,n+1=>if (l.dropWhile bE).takeWhile (fun c=>!bE c)=[] then [] else bX ((l.dropWhile bE).dropWhile (fun c=>!bE c)) n
def fB (s:ByteArray)(n:Nat):ByteArray:=⟨(bX s.data.toList n).toArray⟩
theorem lV (l:List UInt8)(n:Nat):bX l n=match n with
 | 0=>(l.dropWhile bE).takeWhile (fun c=>!bE c)
 | n+1=>if (l.dropWhile bE).takeWhile (fun c=>!bE c)=[] then [] else bX ((l.dropWhile bE).dropWhile (fun c=>!bE c)) n:=by
 cases n<;>simp[bX]
theorem rM (l:List UInt8):(Lib.indexAny l [32,10]=-1/\l.takeWhile (fun c=>!bE c)=l)∨∃ k:Nat,Lib.indexAny l [32,10]=k/\k<l.length/\l.takeWhile (fun c=>!bE c)=l.take k/\l.dropWhile (fun c=>!bE c)=l.drop k:=by
 induction l with
 | nil=>exact .inl ⟨rfl,rfl⟩
 | cons b l i =>
  by_cases hb:bE b=QD
  ·refine .inr ⟨0,?_,by simp,by simp[hb],by simp[hb]⟩
   have f:([32,10]:List UInt8).contains b=QD:=hb;rw[Lib.indexAny,gM f];rfl
  ·have f:¬ ([32,10]:List UInt8).contains b=QD:=hb
   rcases i with ⟨h1,h2⟩ | ⟨k,h1,h2,h,g⟩
   ·refine .inl ⟨?_,by simp[hb,h2]⟩
    rw[Lib.indexAny,cM f,h1];rfl
   ·refine .inr ⟨k+1,?_,by simp[h2],by simp[hb,h],by simp[hb,g]⟩
    rw[Lib.indexAny,cM f,h1,cM (by simp<;>omega)];simp
theorem eQ (l:List UInt8)(p:UInt8->Bool):(l.dropWhile p).length<=l.length:=by
 induction l with
 | nil=>simp
 | cons b l ih =>
  rw[NF];split
  ·simp;omega
  ·simp
theorem oY (s:ByteArray)(n:Nat)(w:G)(M:s.size<=2000)(hn:n<=2000):Calls Tryz.prog 222 #[U s,J I n] w fun e QK=>e=QF (U (fB s n))/\Below w.heap.size w QK:=by
 go_enter Tryz.func222,Tryz.ntmps222;go_wp2;go_loopw [0,1] (fun P D wr=>∃ (t:ByteArray) (k:Nat),P=U t/\D=J I k/\t.size<=2000/\k<=2000/\bX t.data.toList k=bX s.data.toList n/\Below w.heap.size w wr) (fun _ D _=>(intOf D).toNat);case atStart=>exact⟨s,n,rfl,rfl,M,hn,rfl,a8 _ _⟩
 case round =>
  obtain⟨t,k,rfl,rfl,ht,hk,L,A⟩:=hrel;have j:=ae L;have R:=ae A;have QP:=A.size;clear L A;go_wp2_with fail;refine(sJ t _).mono ?_;rintro e w1 ⟨rfl,u⟩;have z:=ae (R.trans (u.mono QP));clear u;obtain⟨QL,QR⟩:∃ QL:ByteArray,QL=⟨(Lib.trimLeftS t.data.toList [32,10]).toArray⟩:=⟨_,rfl⟩
  rw[<-QR];have q:QL.data.toList=t.data.toList.dropWhile bE:=by rw[QR];rfl
  have x:QL.size=QL.data.toList.length:=rfl;have hTz:QL.size<=2000:=by have h1:=eQ t.data.toList bE;have h2:t.data.toList.length=t.size:=rfl;rw[x,q];omega
  have B:=z.size;have m:=ae q;clear QR q x;go_wp2_with fail;refine(sI QL _ (by omega)).mono ?_;rintro e w2 ⟨rfl,y⟩;have f:=ae (z.trans (y.mono B));clear y;rcases rM QL.data.toList with ⟨hz,o⟩ | ⟨E,hz,K,o,H⟩
  ·rw[hz]
   have g:=ae o;clear hz o;by_cases h:k=0
   ·subst h
    go_wp2;go_ret;refine⟨fN ?_,f⟩;unfold fB;rw[<-j.out,bX,<-m.out,g.out]
   ·have QO:((k:Int) == 0)=QB:=by simp[h]
    obtain⟨k,rfl⟩:∃ C,k=C+1:=⟨k - 1,by omega⟩
    by_cases b:QL.size=0
    ·have r:((QL.size:Int) == 0)=QD:=by simp[b]
     go_wp2;go_ret;refine⟨fN ?_,f⟩;unfold fB;rw[<-j.out,bX,<-m.out,g.out];have:QL.data.toList=[]:=List.eq_nil_of_length_eq_zero b;rw[gM this];rfl
    ·have r:((QL.size:Int) == 0)=QB:=by simp[b]
     have i:¬ QL.data.toList=[]:=fun e=>b (by show QL.data.toList.length=0;rw[e];rfl);go_wp2
     exact⟨⟨⟨#[]⟩,k,rfl,by go_num,by decide,by omega,by
      rw[<-j.out,bX,<-m.out,g.out,cM i];congr 1;have:=List.takeWhile_append_dropWhile (p:=fun c=>!bE c) (l:=QL.data.toList);rw[g.out] at this
      simpa using this.symm,f.out⟩,by first | (simp[intOf];done) | (simp[intOf];omega)⟩
  ·rw[hz]
   have hE':E<QL.size:=K;have g:=ae o;have S:=ae H;clear hz o H K;have QN:Hid ((QL.extract 0 E).data.toList=QL.data.toList.take E):=by show(QL.extract 0 E).data.toList=QL.data.toList.take E;simp
   have O:Hid ((QL.extract E QL.size).data.toList=QL.data.toList.drop E):=by show(QL.extract E QL.size).data.toList=QL.data.toList.drop E;simp only[ByteArray.data_extract,Array.toList_extract,List.extract_eq_take_drop];exact I8 (by rw[IM];exact j6 _)
   by_cases h:k=0
   ·subst h
    go_wp2;go_ret;refine⟨fN ?_,f⟩;unfold fB;rw[<-j.out,bX,<-m.out,g.out,<-QN.out]
   ·have QO:((k:Int) == 0)=QB:=by simp[h]
    obtain⟨k,rfl⟩:∃ C,k=C+1:=⟨k - 1,by omega⟩
    by_cases b:E=0
    ·subst b
     go_wp2;go_ret;refine⟨fN ?_,f⟩;unfold fB;rw[<-j.out,bX,<-m.out,g.out];simp;rfl
    ·have r:((E:Int) == 0)=QB:=by simp[b]
     have i:¬ QL.data.toList.take E=[]:=fun e=>by
      have QM:(QL.data.toList.take E).length=0:=by rw[e];rfl
      have h6:QL.data.toList.length=QL.size:=rfl;rw[IU] at QM;omega
     go_wp2
     exact⟨⟨_,k,rfl,by go_num,by simp;omega,by omega,by
      rw[<-j.out,bX,<-m.out,g.out,cM i,S.out,O.out],f.out⟩,by first | (simp[intOf];done) | (simp[intOf];omega)⟩
theorem lW (m:Nat):bX [] m=[]:=by cases m<;>simp[bX]
theorem qG {c:UInt8}{l:List UInt8}(h:bE c=QD)(m:Nat):bX (c :: l) m=bX l m:=by rw[lV,lV l];simp only[NF,h,if_true]
theorem oZ {u r:List UInt8}(i:u≠[])(h:∀ c∈u,bE c=QB)(g:r=[]∨∃ c l,r=c :: l/\bE c=QD):(u++r).dropWhile bE=u++r/\(u++r).takeWhile (fun c=>!bE c)=u/\(u++r).dropWhile (fun c=>!bE c)=r:=by
 obtain⟨c,u',rfl⟩:=List.exists_cons_of_ne_nil i;refine⟨?_,?_,?_⟩
 ·rw[JB,NF,cM (by simp[h c (by simp)])]
 ·rw[List.takeWhile_append_of_pos (fun a f=>by simp[h a f])]
  rcases g with rfl | ⟨d,l,rfl,b⟩
  ·simp
  ·simp[b]
 ·rw[List.dropWhile_append_of_pos (fun a f=>by simp[h a f])]
  rcases g with rfl | ⟨d,l,rfl,b⟩
  ·simp
  ·simp[b]
theorem wL {u r:List UInt8}(f:u≠[])(h:∀ c∈u,bE c=QB)(b:r=[]∨∃ c l,r=c :: l/\bE c=QD):bX (u++r) 0=u:=by obtain⟨h1,h2,h3⟩:=oZ f h b;rw[bX,h1,h2]
theorem wM {u r:List UInt8}(b:u≠[])(h:∀ c∈u,bE c=QB)(f:r=[]∨∃ c l,r=c :: l/\bE c=QD)(m:Nat):bX (u++r) (m+1)=bX r m:=by obtain⟨h1,h2,g⟩:=oZ b h f;rw[bX,h1,h2,g,cM b]
theorem vd (s:ByteArray)(f i:Nat)(hf:f<i)(hi:i<=s.size)(q:∀ j,(h:j<s.size)->f<=j->j<i->bE s[j]=QB)(n:s.data.toList.drop i=[]∨∃ c l,s.data.toList.drop i=c :: l/\bE c=QD):bX (s.data.toList.drop f) 0=(s.extract f i).data.toList/\∀ m,bX (s.data.toList.drop f) (m+1)=bX (s.data.toList.drop i) m:=by
 have hL:s.data.toList.length=s.size:=rfl;have e:s.data.toList.drop f=(s.data.toList.drop f).take (i - f)++s.data.toList.drop i:=by
  conv=>lhs;rw[<-J9 (i - f) (s.data.toList.drop f)]
  rw[List.drop_drop];congr 2;omega
 have p:(s.extract f i).data.toList=(s.data.toList.drop f).take (i - f):=by simp only[ByteArray.data_extract,Array.toList_extract,List.extract_eq_take_drop]
 have g:(s.data.toList.drop f).take (i - f)≠[]:=by
  intro e;have r:((s.data.toList.drop f).take (i - f)).length=0:=by rw[e];rfl
  rw[IU,IM] at r;omega
 have b:∀ c∈(s.data.toList.drop f).take (i - f),bE c=QB:=by intro c b;obtain⟨j,o,rfl⟩:=List.mem_iff_getElem.1 b;rw[IU,IM] at o;have:=q (f+j) (by omega) (by omega) (by omega);simp only[List.getElem_take,MG,Array.getElem_toList];exact this
 refine⟨?_,fun m=>?_⟩
 ·rw[p]
  conv=>lhs;rw[e]
  exact wL g b n
 ·conv=>lhs;rw[e]
  exact wM g b n m
theorem us (s:ByteArray)(n:Nat)(w:G)(hs:s.size<=2000)(hn:n<=2000):Calls Tryz.prog 195 #[U s,J I n] w fun e QK=>e=QF (U (fB s n))/\Below w.heap.size w QK:=by
  have hL:s.data.toList.length=s.size:=rfl;have p:∀ i:Nat,(h:i<s.size)->s.data.toList.drop i=s[i] :: s.data.toList.drop (i+1):=fun i h=>LM (by rw[hL];exact h);have H:=ae p;have o:∀ i:Nat,s.size<=i->s.data.toList.drop i=[]:=fun i h=>List.drop_eq_nil_of_le (by rw[hL];exact h);have r:=ae o;clear p o;go_enter Tryz.func195,Tryz.ntmps195;go_wp2
  go_loopw [1,5,6] (fun S K QO wr=>∃ (i m:Nat),i<=s.size+1/\m<=2000/\QO=J I i/\S=J I m/\Below w.heap.size w wr /\
      ((K=J I (-1)/\bX (s.data.toList.drop i) m=bX s.data.toList n) ∨
       ∃ f:Nat,K=J I f/\f<i/\i<=s.size/\(∀ j,(h:j<s.size)->f<=j->j<i->bE s[j]=QB)/\bX (s.data.toList.drop f) m=bX s.data.toList n)) (fun _ _ QO _=>s.size+1 - (intOf QO).toNat)
  case atStart=>exact⟨0,n,by omega,hn,rfl,rfl,a8 _ _,.inl ⟨rfl,rfl⟩⟩
  case round =>
    obtain⟨i,m,hi,C,rfl,rfl,L,D⟩:=hrel;have q:=ae L;clear L;by_cases hle:i<=s.size
    · by_cases QL:i=s.size
      · subst QL
        have l:=r.out s.size ly;have E:=r.out (s.size+1) (by omega);rcases D with ⟨rfl,g⟩ | ⟨f,rfl,A,_,t,g⟩
        · have b:=ae g
          rw[l,lW] at b;clear g l;go_wp2;exact⟨⟨s.size+1,m,by omega,C,by go_num,rfl,q,.inl ⟨rfl,by rw[E,lW];exact b⟩⟩,by first | (simp[intOf];done) | (simp[intOf];omega)⟩
        · obtain⟨B,y⟩:=vd s f s.size A ly t (.inl l)
          have QP:=ae B;have z:=ae y;have b:=ae g;clear t g B y;rw[l] at z;clear l;by_cases u:m=0
          · subst u
            rw[QP.out] at b;go_wp2;go_ret;refine⟨fN ?_,q⟩;unfold fB;rw[<-b.out]
          · have P:((m:Int) == 0)=QB:=by simp[u]
            obtain⟨m,rfl⟩:∃ QR,m=QR+1:=⟨m - 1,by omega⟩
            go_wp2;exact⟨⟨s.size+1,m,by omega,by omega,by go_num,by go_num,q,.inl ⟨rfl,by rw[E,<-z.out];exact b⟩⟩,by first | (simp[intOf];done) | (simp[intOf];omega)⟩
      · have QN:i<s.size:=by omega
        have heb:((i:Int) == (s.size:Int))=QB:=by simp;omega
        have l:=H.out i QN;cases hgp:bE s[i] with
        | false =>
          have M:((s[i].toNat:Int) == 32)=QB:=by
            have:¬ s[i]=32:=fun e=>by rw[e] at hgp;exact absurd hgp (by decide)
            have h2:¬ s[i].toNat=32:=fun e=>this (UInt8.toNat_inj.1 e);simp;omega
          have QM:((s[i].toNat:Int) == 10)=QB:=by
            have:¬ s[i]=10:=fun e=>by rw[e] at hgp;exact absurd hgp (by decide)
            have h2:¬ s[i].toNat=10:=fun e=>this (UInt8.toNat_inj.1 e);simp;omega
          have x:=ae hgp;clear hgp;rcases D with ⟨rfl,g⟩ | ⟨f,rfl,A,_,t,g⟩
          · have b:=ae g
            clear g l;go_wp2
            exact⟨⟨i+1,m,by omega,C,by go_num,rfl,q,.inr ⟨i,rfl,by omega,by omega,fun j h h1 h2=>by
              obtain rfl:j=i:=by omega
              exact x,b⟩⟩,by first | (simp[intOf];done) | (simp[intOf];omega)⟩
          · have b:=ae g
            have O:=ae t;clear g l t;go_wp2
            exact⟨⟨i+1,m,by omega,C,by go_num,rfl,q,.inr ⟨f,rfl,by omega,by omega,fun j h h1 h2=>by
              by_cases e:j=i
              · subst e;exact x
              · exact O j h h1 (by omega),b⟩⟩,by first | (simp[intOf];done) | (simp[intOf];omega)⟩
        | true =>
          have R:((s[i].toNat:Int) == 32)=QD∨(((s[i].toNat:Int) == 32)=QB/\((s[i].toNat:Int) == 10)=QD):=by
            have:s[i]=32∨s[i]=10:=by simpa[bE] using hgp
            rcases this with e | e
            · left;rw[e];rfl
            · right;rw[e];exact⟨rfl,rfl⟩
          have x:=ae hgp;clear hgp;rcases R with M | ⟨M,QM⟩
          all_goals
            rcases D with ⟨rfl,g⟩ | ⟨f,rfl,A,_,t,g⟩
            · have b:=ae g
              rw[l,qG x.out] at b;clear g l;go_wp2;exact⟨⟨i+1,m,by omega,C,by go_num,rfl,q,.inl ⟨rfl,b⟩⟩,by first | (simp[intOf];done) | (simp[intOf];omega)⟩
            · obtain⟨B,y⟩:=vd s f i A (by omega) t (.inr ⟨_,_,l,x⟩)
              have QP:=ae B;have z:=ae y;have b:=ae g;rw[l] at z;clear t g B y l;by_cases u:m=0
              · subst u
                rw[QP.out] at b;go_wp2;go_ret;refine⟨fN ?_,q⟩;unfold fB;rw[<-b.out]
              · have P:((m:Int) == 0)=QB:=by simp[u]
                obtain⟨m,rfl⟩:∃ QR,m=QR+1:=⟨m - 1,by omega⟩
                rw[z.out,qG x.out] at b;go_wp2;exact⟨⟨i+1,m,by omega,by omega,by go_num,by go_num,q,.inl ⟨rfl,b⟩⟩,by first | (simp[intOf];done) | (simp[intOf];omega)⟩
    · obtain rfl:i=s.size+1:=by omega
      rcases D with ⟨rfl,g⟩ | ⟨f,rfl,A,hz,t,g⟩
      · have b:=ae g
        rw[r.out _ (by omega),lW] at b;clear g;go_wp2;go_ret;refine⟨fN ?_,q⟩;unfold fB;rw[<-b.out]
      · omega
end Go.Proofs.YtamacmnikdejeaaGreatDoor.Vp
