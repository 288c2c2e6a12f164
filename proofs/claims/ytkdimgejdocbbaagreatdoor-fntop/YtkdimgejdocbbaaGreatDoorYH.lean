import Derived.Test.YtkdimgejdocbbaaGreatDoorZD
import Derived.Test.YtkdimgejdocbbaaGreatDoorZV
import Derived.Shelf.Strings.SlTrimAscii
import Derived.Lib.OthersKept
import Derived.Lib.TrimU
import Derived.Laws.Runes
import Derived.Deep.LoopGhost
import Derived.WalkMore
set_option maxRecDepth 1000000
set_option maxHeartbeats 8000000
open Option renaming none->Z,some->Q
open Go.Value renaming string->U,int->N
open Go.IntKind renaming i64->I
open Go renaming World->E
open Bool renaming false->D,true->QC
open Go.Ending renaming returned->QD
namespace Go.Proofs.YtkdimgejdocbbaaGreatDoor.Vp
open RowKit
theorem rW {r:Int}(h:Utf8.valid r=QC):Lib.validRune r=QC:=by unfold Utf8.valid at h;unfold Lib.validRune;simp at *;omega
theorem rX (r:Int)(w:E)(h1:128<=r)(h2:r<=1114111)(h:Utf8.valid r=QC)(m:¬ r=65533):Calls Tryz.prog 288 #[U ⟨#[32,10]⟩,N .i32 r] w fun e k=>e=QD (N I (-1))/\Below w.heap.size w k:=by
 obtain⟨o,n,f⟩:=encode_facts r h h1;have g:=rW h;have hne:(r == 65533)=D:=by simp[m]
 have hcv:∀ w:E,(convert 21 9 (N .i32 r)).run Tryz.prog w=.ok (U (Utf8.encode r)) w:=fun w=>run_convert_int_string w _ _ _ _ (by rw[Tryz.underlying21];rfl) Tryz.underlying9;generalize Utf8.encode r=QP at *;have hn1:((QP.size:Int) - 1).toNat=QP.size - 1:=by omega
 go_enter Tryz.func288,Tryz.ntmps288;go_wp2_with fail;refine(Tryz.utf8_ValidRune r _).mono ?_;rintro e w1 ⟨rfl,rfl⟩;rw[g];go_wp2_with fail;go_step3;by_cases d:QP.size=2
 ·have b:=f (by omega)
  obtain⟨⟨l⟩⟩:=QP;obtain⟨x,y,rfl⟩:∃ x y,l=[x,y]:=by
   match l,d with
   | [x,y],_=>exact⟨x,y,rfl⟩
  have hy:128<=y.toNat:=b;have hyn:((10:Int) != (y.toNat:Int))=QC:=by simp;omega
  clear f b o n hn1 d;have i1:∀ w:E,(Instr.index 9 (U ⟨#[32,10]⟩) (N I 1)).run Tryz.prog w=.ok (N .u8 10) w:=fun w=>by kernel_rfl
  have i2:∀ w:E,(Instr.index 9 (U ⟨⟨[x,y]⟩⟩) (N I 1)).run Tryz.prog w=.ok (N .u8 y.toNat) w:=fun w=>by kernel_rfl
  have i3:∀ w:E,(Instr.slice 9 (U ⟨#[32,10]⟩) (Q (N I 2)) Z Z).run Tryz.prog w=.ok (U ⟨#[]⟩) w:=fun w=>by kernel_rfl
  go_wp2;go_loop [9] (fun i=>i=N I 1) (fun _=>0);case atStart=>rfl
  case round =>
   subst hrel;go_wp2_with fail;go_step3;go_wp2_with fail;go_region_with fail;all_goals
    go_wp2_with fail;go_region_with (go_at_call 302;refine(Tryz.strings_IndexByte _ _ _).mono ?_;rintro e w2 ⟨rfl,j⟩;subst j);all_goals
     go_wp2;rw[JB];go_wp2;rw[JB];go_wp2;go_ret;exact⟨rfl,(by repeat (first | exact eI _ _ | apply Below.drew))⟩
 ·have h4:¬ ((QP.size:Int) - 1<2):=by omega
  go_wp2;go_loop [9] (fun i=>i=N I ((QP.size:Int) - 1)) (fun _=>0);case atStart=>rfl
  case round =>subst hrel;go_wp2;go_ret;exact⟨rfl,eI _ _⟩
theorem qS (w:E):Calls Tryz.prog 288 #[U ⟨#[32,10]⟩,N .i32 65533] w fun e d=>e=QD (N I (-1))/\Below w.heap.size w d:=by
 have n0:=fun ty=>run_next_ascii (P:=Tryz.prog) w ⟨#[32,10]⟩ 0 ty (by decide) (by decide);have n1:=fun ty=>run_next_ascii (P:=Tryz.prog) w ⟨#[32,10]⟩ 1 ty (by decide) (by decide);have n2:=run_next_end (P:=Tryz.prog) w ⟨#[32,10]⟩ 2;go_enter Tryz.func288,Tryz.ntmps288;go_wp2;go_loopg [] 2 (fun g b=>∃ i:Nat,i+g=2/\b=w.iter ⟨#[32,10]⟩ i);case atStart=>exact⟨0,by omega,rfl⟩
 case round =>
  obtain⟨i,hig,rfl⟩:=hrel;rcases(show i=0∨i=1∨i=2 by omega) with rfl | rfl | rfl
  ·go_wp2
   go_roundg 1;case measure=>omega
   case rel=>exact⟨1,by omega,rfl⟩
  ·go_wp2
   go_roundg 0;case measure=>omega
   case rel=>exact⟨2,by omega,rfl⟩
  ·go_wp2
   go_ret;exact⟨rfl,(eI _ w).alloc lr _⟩
theorem x8 (s:ByteArray)(b:Nat)(hp:b<s.size)(h:128<=(s.get! b).toNat):128<=(Utf8.decode s b).1/\Utf8.valid (Utf8.decode s b).1=QC/\b+(Utf8.decode s b).2<=s.size/\∀ j,j<(Utf8.decode s b).2->128<=(s.get! (b+j)).toNat:=by
 rw[Lib.decode_at];have b0:=UInt8.toNat_lt (s.get! b);unfold Lib.decodeN Utf8.valid;rw[a8 (by omega)];repeat' split
 all_goals
  refine⟨by simp only;omega,by first | (simp;done) | (simp;omega),by simp only;omega,?_⟩;intro j d;simp only at d;rcases(show j=0∨j=1∨j=2∨j=3 by omega) with rfl | rfl | rfl | rfl;all_goals first | exact h | omega
theorem x9 (s:ByteArray)(b:Nat)(h:(s.get! b).toNat<128):Utf8.decode s b=((s.get! b).toNat,1):=by rw[Lib.decode_at];unfold Lib.decodeN;rw[eT h]
theorem uI (s:ByteArray)(i:Nat)(h:i<s.size):s.data.toList[i]?=Q (s.get! i):=by rw[Lib.data_getElem? s i h];obtain⟨a⟩:=s;exact vG Q (getElem!_pos a i h).symm
theorem Ab {s:ByteArray}{d:Nat}(K:Nat)(h:Lib.NoAny s.data.toList [32,10] d)(hK:d+K<=s.size)(f:∀ j,j<K->128<=(s.get! (d+j)).toNat):Lib.NoAny s.data.toList [32,10] (d+K):=by
 intro j b hjk hb;by_cases e:j<d
 ·exact h j b e hb
 ·have h2:=f (j - d) (by omega)
  rw[show d+(j - d)=j by omega] at h2;rw[uI s j (by omega)] at hb;obtain rfl:=FB hb;simp;refine⟨?_,?_⟩
  ·intro e;rw[e] at h2;simp at h2
  ·intro e;rw[e] at h2;simp at h2
theorem o9 (s:ByteArray)(w:E)(h8:(s.size:Int)<=8):Calls Tryz.prog 266 #[U s,U ⟨#[32,10]⟩] w fun e QP=>e=QD (N I (Lib.indexAny s.data.toList [32,10]))/\Below w.heap.size w QP:=by
 have QG:decide ((8:Int)<(s.size:Int))=D:=JS (by omega);go_enter Tryz.func266,Tryz.ntmps266;go_wp2_with fail;refine(Tryz.strings_shouldUseASCIISet _ _).mono ?_;rintro e d ⟨rfl,rfl⟩;rw[QG];go_wp2;go_loopg [9,10] s.size (fun g _ _ QM=>∃ b:Nat,s.size<=b+g/\QM.heap[d.heap.size]?=Q (.stringIter s b)/\Below d.heap.size d QM/\Lib.NoAny s.data.toList [32,10] b/\b<=s.size);case atStart=>exact⟨0,by omega,World.iter_heap d s 0,(eI _ d).alloc lr _,Lib.NoAny.zero _ _,by omega⟩
 case round =>
  obtain⟨b,hpg,h,B,A,hps⟩:=hrel;have X:=ae h;have u:=ae A;have QO:=ae B;clear B A;by_cases t:b<s.size
  ·obtain⟨g,rfl⟩:∃ g,gk=g+1:=⟨gk - 1,by omega⟩
   have l:∀ ty,(Instr.next (.pointer (Q ⟨d.heap.size,0,Z⟩)) QC ty).run Tryz.prog wr=_:=fun ty=>Lib.run_next_any_at wr d.heap.size s b ty h t;clear h;have m:=uI s b t;obtain⟨x,q⟩:∃ x,s.get! b=x:=⟨_,rfl⟩
   by_cases H:x.toNat<128
   ·have C:=x9 s b (by rw[q];exact H)
    rw[q] at C m;rw[C] at l;have QK:=ae m;have n:=ae (Lib.iterAt_heap wr d.heap.size s b (b+1) X);have i:=ae (Lib.below_iterAt QO (k:=d.heap.size) lr s (b+1));have j:((x.toNat:Int)).toNat.toUInt8=x:=by simp
    have f:=Lib.contains_iff_indexByte [32,10] x;clear C m q;cases hin:([32,10]:List UInt8).contains x with
    | false =>
     rw[hin] at f;have hlt:¬ ((0:Int)<=Lib.indexByte [32,10] x):=LH f.symm;have QQ:=ae hin;clear f hin;go_wp2_with fail;refine(Tryz.strings_IndexRune_ascii _ _ _ (by omega) (by omega)).mono ?_;rintro e P ⟨rfl,r⟩;rw[r,j];clear r;go_wp2;go_roundg g;case measure=>omega
     case rel=>exact⟨b+1,by omega,n,i,u.succ QK QQ,by omega⟩
    | true =>rw[hin] at f;have hge:(0:Int)<=Lib.indexByte [32,10] x:=IU f.symm;have QQ:=ae hin;clear f hin;go_wp2_with fail;refine(Tryz.strings_IndexRune_ascii _ _ _ (by omega) (by omega)).mono ?_;rintro e P ⟨rfl,r⟩;rw[r,j];clear r;go_wp2;go_ret;exact⟨by rw[Lib.indexAny_hit u.out QK.out QQ.out];rfl,i⟩
   ·obtain⟨d1,V,QJ,G⟩:=x8 s b t (by rw[q];omega)
    have QH:=Lib.rune_le s b;have L:=Lib.width_pos s b;obtain⟨R,hR⟩:∃ R,(Utf8.decode s b).1=R:=⟨_,rfl⟩
    obtain⟨K,QN⟩:∃ K,(Utf8.decode s b).2=K:=⟨_,rfl⟩
    rw[hR] at d1 V QH l;rw[QN] at QJ G L l;have M:=ae (Ab K u QJ G);have n:=ae (Lib.iterAt_heap wr d.heap.size s b (b+K) X);have i:=ae (Lib.below_iterAt QO (k:=d.heap.size) lr s (b+K));have z:d.heap.size<(wr.iterAt d.heap.size s (b+K)).heap.size:=(x4.1 n).1;clear G m q hR QN;have y:∀ W:E,Calls Tryz.prog 288 #[U ⟨#[32,10]⟩,N .i32 (R:Int)] W fun e QP=>e=QD (N I (-1))/\Below W.heap.size W QP:=by
     intro W;by_cases p:(R:Int)=65533
     ·rw[p]
      exact qS W
     ·exact rX _ W (by omega) (by omega) V p
    have QL:=ae y;clear y;go_wp2_with fail;refine(QL _).mono ?_;rintro e P ⟨rfl,o⟩;have O:=ae (i.trans (o.mono (J9 z)));have S:=ae ((o.block d.heap.size z).trans n);clear o;go_wp2;go_roundg g;case measure=>omega
    case rel=>exact⟨b+K,by omega,S,O,M,by omega⟩
  ·have l:∀ ty,(Instr.next (.pointer (Q ⟨d.heap.size,0,Z⟩)) QC ty).run Tryz.prog wr=_:=fun ty=>Lib.run_next_end_at wr d.heap.size s b ty h t
   clear h;have e:b=s.size:=by omega
   subst e;go_wp2;go_ret;exact⟨by rw[Lib.indexAny_none (by rw[<-Lib.size_eq];exact u)];rfl,QO⟩
theorem ox:∀ (j:Nat) b,(([32,10]:List UInt8))[j]?=Q b->b.toNat<128:=by
 intro j b h;match j with
 | 0=>simp at h;subst h;decide
 | 1=>simp at h;subst h;decide
 | j+2=>simp at h
theorem rY (s:ByteArray)(w:E)(d:s.size<4294967281):Calls Tryz.prog 266 #[U s,U ⟨#[32,10]⟩] w fun e b=>e=QD (N I (Lib.indexAny s.data.toList [32,10]))/\Below w.heap.size w b:=by
 by_cases h:(s.size:Int)<=8
 ·exact o9 s w h
 ·refine(Tryz.strings_IndexAny_long (zero_of_info (n:=256) (by kernel_rfl)).1 s ⟨#[32,10]⟩ w (by decide) (by omega) d (by decide) ox).mono ?_
  rintro e b ⟨rfl,rfl⟩;exact⟨rfl,(br.alloc lr _).alloc (by simp) _⟩
theorem rZ (s:ByteArray)(w:E):Calls Tryz.prog 265 #[U s,U ⟨#[32,10]⟩] w fun e b=>e=QD (U ⟨(Lib.trimLeftS s.data.toList [32,10]).toArray⟩)/\Below w.heap.size w b :=
 Any.strings_TrimLeft_laid Tryz.lays161 (by kernel_rfl) s ⟨#[32,10]⟩ w (by decide) ox
def bE (c:UInt8):Bool:=([32,10]:List UInt8).contains c
def ci:List UInt8->Nat->List UInt8
 | l,0=>(l.dropWhile bE).takeWhile (fun c=>!bE c)
 | l,n+1=>if (l.dropWhile bE).takeWhile (fun c=>!bE c)=[] then [] else ci ((l.dropWhile bE).dropWhile (fun c=>!bE c)) n
def fA (s:ByteArray)(n:Nat):ByteArray:=⟨(ci s.data.toList n).toArray⟩
theorem lQ (l:List UInt8)(n:Nat):ci l n=match n with
 | 0=>(l.dropWhile bE).takeWhile (fun c=>!bE c)
 | n+1=>if (l.dropWhile bE).takeWhile (fun c=>!bE c)=[] then [] else ci ((l.dropWhile bE).dropWhile (fun c=>!bE c)) n:=by
 cases n<;>simp[ci]
theorem qT (l:List UInt8):(Lib.indexAny l [32,10]=-1/\l.takeWhile (fun c=>!bE c)=l)∨∃ k:Nat,Lib.indexAny l [32,10]=k/\k<l.length/\l.takeWhile (fun c=>!bE c)=l.take k/\l.dropWhile (fun c=>!bE c)=l.drop k:=by
 induction l with
 | nil=>exact .inl ⟨rfl,rfl⟩
 | cons b l h =>
  by_cases hb:bE b=QC
  ·refine .inr ⟨0,?_,by simp,by simp[hb],by simp[hb]⟩
   have d:([32,10]:List UInt8).contains b=QC:=hb;rw[Lib.indexAny,eT d];rfl
  ·have d:¬ ([32,10]:List UInt8).contains b=QC:=hb
   rcases h with ⟨h1,h2⟩ | ⟨k,h1,h2,f,g⟩
   ·refine .inl ⟨?_,by simp[hb,h2]⟩
    rw[Lib.indexAny,a8 d,h1];rfl
   ·refine .inr ⟨k+1,?_,by simp[h2],by simp[hb,f],by simp[hb,g]⟩
    rw[Lib.indexAny,a8 d,h1,a8 (by simp<;>omega)];simp
theorem eS (l:List UInt8)(p:UInt8->Bool):(l.dropWhile p).length<=l.length:=by
 induction l with
 | nil=>simp
 | cons b l ih =>
  rw[NA];split
  ·simp;omega
  ·simp
theorem oy (s:ByteArray)(n:Nat)(w:E)(L:s.size<=2000)(R:n<=2000):Calls Tryz.prog 248 #[U s,N I n] w fun e QM=>e=QD (U (fA s n))/\Below w.heap.size w QM:=by
 go_enter Tryz.func248,Tryz.ntmps248;go_wp2;go_loopw [0,1] (fun M C wr=>∃ (t:ByteArray) (k:Nat),M=U t/\C=N I k/\t.size<=2000/\k<=2000/\ci t.data.toList k=ci s.data.toList n/\Below w.heap.size w wr) (fun _ C _=>(intOf C).toNat);case atStart=>exact⟨s,n,rfl,rfl,L,R,rfl,eI _ _⟩
 case round =>
  obtain⟨t,k,rfl,rfl,ht,hk,H,A⟩:=hrel;have j:=ae H;have QJ:=ae A;have QN:=A.size;clear H A;go_wp2_with fail;refine(rZ t _).mono ?_;rintro e w1 ⟨rfl,u⟩;have y:=ae (QJ.trans (u.mono QN));clear u;obtain⟨QK,QQ⟩:∃ QK:ByteArray,QK=⟨(Lib.trimLeftS t.data.toList [32,10]).toArray⟩:=⟨_,rfl⟩
  rw[<-QQ];have o:QK.data.toList=t.data.toList.dropWhile bE:=by rw[QQ];rfl
  have q:QK.size=QK.data.toList.length:=rfl;have hTz:QK.size<=2000:=by have h1:=eS t.data.toList bE;have h2:t.data.toList.length=t.size:=rfl;rw[q,o];omega
  have B:=y.size;have i:=ae o;clear QQ o q;go_wp2_with fail;refine(rY QK _ (by omega)).mono ?_;rintro e w2 ⟨rfl,r⟩;have d:=ae (y.trans (r.mono B));clear r;rcases qT QK.data.toList with ⟨hz,m⟩ | ⟨QP,hz,QO,m,K⟩
  ·rw[hz]
   have g:=ae m;clear hz m;by_cases f:k=0
   ·subst f
    go_wp2;go_ret;refine⟨fO ?_,d⟩;unfold fA;rw[<-j.out,ci,<-i.out,g.out]
   ·have G:((k:Int) == 0)=D:=by simp[f]
    obtain⟨k,rfl⟩:∃ z,k=z+1:=⟨k - 1,by omega⟩
    by_cases b:QK.size=0
    ·have x:((QK.size:Int) == 0)=QC:=by simp[b]
     go_wp2;go_ret;refine⟨fO ?_,d⟩;unfold fA;rw[<-j.out,ci,<-i.out,g.out];have:QK.data.toList=[]:=List.eq_nil_of_length_eq_zero b;rw[eT this];rfl
    ·have x:((QK.size:Int) == 0)=D:=by simp[b]
     have h:¬ QK.data.toList=[]:=fun e=>b (by show QK.data.toList.length=0;rw[e];rfl);go_wp2
     exact⟨⟨⟨#[]⟩,k,rfl,by go_num,by decide,by omega,by
      rw[<-j.out,ci,<-i.out,g.out,a8 h];congr 1;have:=List.takeWhile_append_dropWhile (p:=fun c=>!bE c) (l:=QK.data.toList);rw[g.out] at this
      simpa using this.symm,d.out⟩,by first | (simp[intOf];done) | (simp[intOf];omega)⟩
  ·rw[hz]
   have hE':QP<QK.size:=QO;have g:=ae m;have O:=ae K;clear hz m K QO;have P:Hid ((QK.extract 0 QP).data.toList=QK.data.toList.take QP):=by show(QK.extract 0 QP).data.toList=QK.data.toList.take QP;simp
   have S:Hid ((QK.extract QP QK.size).data.toList=QK.data.toList.drop QP):=by show(QK.extract QP QK.size).data.toList=QK.data.toList.drop QP;simp only[ByteArray.data_extract,Array.toList_extract,List.extract_eq_take_drop];exact IY (by rw[IH];exact j6 _)
   by_cases f:k=0
   ·subst f
    go_wp2;go_ret;refine⟨fO ?_,d⟩;unfold fA;rw[<-j.out,ci,<-i.out,g.out,<-P.out]
   ·have G:((k:Int) == 0)=D:=by simp[f]
    obtain⟨k,rfl⟩:∃ z,k=z+1:=⟨k - 1,by omega⟩
    by_cases b:QP=0
    ·subst b
     go_wp2;go_ret;refine⟨fO ?_,d⟩;unfold fA;rw[<-j.out,ci,<-i.out,g.out];simp;rfl
    ·have x:((QP:Int) == 0)=D:=by simp[b]
     have h:¬ QK.data.toList.take QP=[]:=fun e=>by
      have QL:(QK.data.toList.take QP).length=0:=by rw[e];rfl
      have h6:QK.data.toList.length=QK.size:=rfl;rw[IT] at QL;omega
     go_wp2
     exact⟨⟨_,k,rfl,by go_num,by simp;omega,by omega,by
      rw[<-j.out,ci,<-i.out,g.out,a8 h,O.out,S.out],d.out⟩,by first | (simp[intOf];done) | (simp[intOf];omega)⟩
theorem lR (m:Nat):ci [] m=[]:=by cases m<;>simp[ci]
theorem pR {c:UInt8}{l:List UInt8}(h:bE c=QC)(m:Nat):ci (c :: l) m=ci l m:=by rw[lQ,lQ l];simp only[NA,h,if_true]
theorem oz {u r:List UInt8}(i:u≠[])(h:∀ c∈u,bE c=D)(g:r=[]∨∃ c l,r=c :: l/\bE c=QC):(u++r).dropWhile bE=u++r/\(u++r).takeWhile (fun c=>!bE c)=u/\(u++r).dropWhile (fun c=>!bE c)=r:=by
 obtain⟨c,u',rfl⟩:=List.exists_cons_of_ne_nil i;refine⟨?_,?_,?_⟩
 ·rw[I4,NA,a8 (by simp[h c (by simp)])]
 ·rw[List.takeWhile_append_of_pos (fun a f=>by simp[h a f])]
  rcases g with rfl | ⟨d,l,rfl,b⟩
  ·simp
  ·simp[b]
 ·rw[List.dropWhile_append_of_pos (fun a f=>by simp[h a f])]
  rcases g with rfl | ⟨d,l,rfl,b⟩
  ·simp
  ·simp[b]
theorem wE {u r:List UInt8}(d:u≠[])(h:∀ c∈u,bE c=D)(b:r=[]∨∃ c l,r=c :: l/\bE c=QC):ci (u++r) 0=u:=by obtain⟨h1,h2,h3⟩:=oz d h b;rw[ci,h1,h2]
theorem wF {u r:List UInt8}(b:u≠[])(h:∀ c∈u,bE c=D)(d:r=[]∨∃ c l,r=c :: l/\bE c=QC)(m:Nat):ci (u++r) (m+1)=ci r m:=by obtain⟨h1,h2,f⟩:=oz b h d;rw[ci,h1,h2,f,a8 b]
theorem uJ (s:ByteArray)(f i:Nat)(hf:f<i)(hi:i<=s.size)(k:∀ j,(h:j<s.size)->f<=j->j<i->bE s[j]=D)(d:s.data.toList.drop i=[]∨∃ c l,s.data.toList.drop i=c :: l/\bE c=QC):ci (s.data.toList.drop f) 0=(s.extract f i).data.toList/\∀ m,ci (s.data.toList.drop f) (m+1)=ci (s.data.toList.drop i) m:=by
 have hL:s.data.toList.length=s.size:=rfl;have e:s.data.toList.drop f=(s.data.toList.drop f).take (i - f)++s.data.toList.drop i:=by
  conv=>lhs;rw[<-KM (i - f) (s.data.toList.drop f)]
  rw[List.drop_drop];congr 2;omega
 have p:(s.extract f i).data.toList=(s.data.toList.drop f).take (i - f):=by simp only[ByteArray.data_extract,Array.toList_extract,List.extract_eq_take_drop]
 have g:(s.data.toList.drop f).take (i - f)≠[]:=by
  intro e;have o:((s.data.toList.drop f).take (i - f)).length=0:=by rw[e];rfl
  rw[IT,IH] at o;omega
 have b:∀ c∈(s.data.toList.drop f).take (i - f),bE c=D:=by intro c b;obtain⟨j,n,rfl⟩:=List.mem_iff_getElem.1 b;rw[IT,IH] at n;have:=k (f+j) (by omega) (by omega) (by omega);simp only[List.getElem_take,LZ,Array.getElem_toList];exact this
 refine⟨?_,fun m=>?_⟩
 ·rw[p]
  conv=>lhs;rw[e]
  exact wE g b d
 ·conv=>lhs;rw[e]
  exact wF g b d m
theorem tX (s:ByteArray)(n:Nat)(w:E)(hs:s.size<=2000)(QL:n<=2000):Calls Tryz.prog 278 #[U s,N I n] w fun e R=>e=QD (U (fA s n))/\Below w.heap.size w R:=by
  have hL:s.data.toList.length=s.size:=rfl;have l:∀ i:Nat,(h:i<s.size)->s.data.toList.drop i=s[i] :: s.data.toList.drop (i+1):=fun i h=>KZ (by rw[hL];exact h);have G:=ae l;have k:∀ i:Nat,s.size<=i->s.data.toList.drop i=[]:=fun i h=>List.drop_eq_nil_of_le (by rw[hL];exact h);have o:=ae k;clear l k;go_enter Tryz.func278,Tryz.ntmps278;go_wp2
  go_loopw [1,5,6] (fun S QN QQ wr=>∃ (i m:Nat),i<=s.size+1/\m<=2000/\QQ=N I i/\S=N I m/\Below w.heap.size w wr /\
      ((QN=N I (-1)/\ci (s.data.toList.drop i) m=ci s.data.toList n) ∨
       ∃ f:Nat,QN=N I f/\f<i/\i<=s.size/\(∀ j,(h:j<s.size)->f<=j->j<i->bE s[j]=D)/\ci (s.data.toList.drop f) m=ci s.data.toList n)) (fun _ _ QQ _=>s.size+1 - (intOf QQ).toNat)
  case atStart=>exact⟨0,n,by omega,QL,rfl,rfl,eI _ _,.inl ⟨rfl,rfl⟩⟩
  case round =>
    obtain⟨i,m,hi,B,rfl,rfl,QO,A⟩:=hrel;have q:=ae QO;clear QO;by_cases hle:i<=s.size
    · by_cases O:i=s.size
      · subst O
        have g:=o.out s.size lr;have C:=o.out (s.size+1) (by omega);rcases A with ⟨rfl,d⟩ | ⟨f,rfl,u,_,p,d⟩
        · have b:=ae d
          rw[g,lR] at b;clear d g;go_wp2;exact⟨⟨s.size+1,m,by omega,B,by go_num,rfl,q,.inl ⟨rfl,by rw[C,lR];exact b⟩⟩,by first | (simp[intOf];done) | (simp[intOf];omega)⟩
        · obtain⟨y,z⟩:=uJ s f s.size u lr p (.inl g)
          have H:=ae y;have x:=ae z;have b:=ae d;clear p d y z;rw[g] at x;clear g;by_cases r:m=0
          · subst r
            rw[H.out] at b;go_wp2;go_ret;refine⟨fO ?_,q⟩;unfold fA;rw[<-b.out]
          · have L:((m:Int) == 0)=D:=by simp[r]
            obtain⟨m,rfl⟩:∃ QP,m=QP+1:=⟨m - 1,by omega⟩
            go_wp2;exact⟨⟨s.size+1,m,by omega,by omega,by go_num,by go_num,q,.inl ⟨rfl,by rw[C,<-x.out];exact b⟩⟩,by first | (simp[intOf];done) | (simp[intOf];omega)⟩
      · have M:i<s.size:=by omega
        have heb:((i:Int) == (s.size:Int))=D:=by simp;omega
        have g:=G.out i M;cases hgp:bE s[i] with
        | false =>
          have K:((s[i].toNat:Int) == 32)=D:=by
            have:¬ s[i]=32:=fun e=>by rw[e] at hgp;exact absurd hgp (by decide)
            have h2:¬ s[i].toNat=32:=fun e=>this (UInt8.toNat_inj.1 e);simp;omega
          have P:((s[i].toNat:Int) == 10)=D:=by
            have:¬ s[i]=10:=fun e=>by rw[e] at hgp;exact absurd hgp (by decide)
            have h2:¬ s[i].toNat=10:=fun e=>this (UInt8.toNat_inj.1 e);simp;omega
          have t:=ae hgp;clear hgp;rcases A with ⟨rfl,d⟩ | ⟨f,rfl,u,_,p,d⟩
          · have b:=ae d
            clear d g;go_wp2
            exact⟨⟨i+1,m,by omega,B,by go_num,rfl,q,.inr ⟨i,rfl,by omega,by omega,fun j h h1 h2=>by
              obtain rfl:j=i:=by omega
              exact t,b⟩⟩,by first | (simp[intOf];done) | (simp[intOf];omega)⟩
          · have b:=ae d
            have QM:=ae p;clear d g p;go_wp2
            exact⟨⟨i+1,m,by omega,B,by go_num,rfl,q,.inr ⟨f,rfl,by omega,by omega,fun j h h1 h2=>by
              by_cases e:j=i
              · subst e;exact t
              · exact QM j h h1 (by omega),b⟩⟩,by first | (simp[intOf];done) | (simp[intOf];omega)⟩
        | true =>
          have QK:((s[i].toNat:Int) == 32)=QC∨(((s[i].toNat:Int) == 32)=D/\((s[i].toNat:Int) == 10)=QC):=by
            have:s[i]=32∨s[i]=10:=by simpa[bE] using hgp
            rcases this with e | e
            · left;rw[e];rfl
            · right;rw[e];exact⟨rfl,rfl⟩
          have t:=ae hgp;clear hgp;rcases QK with K | ⟨K,P⟩
          all_goals
            rcases A with ⟨rfl,d⟩ | ⟨f,rfl,u,_,p,d⟩
            · have b:=ae d
              rw[g,pR t.out] at b;clear d g;go_wp2;exact⟨⟨i+1,m,by omega,B,by go_num,rfl,q,.inl ⟨rfl,b⟩⟩,by first | (simp[intOf];done) | (simp[intOf];omega)⟩
            · obtain⟨y,z⟩:=uJ s f i u (by omega) p (.inr ⟨_,_,g,t⟩)
              have H:=ae y;have x:=ae z;have b:=ae d;rw[g] at x;clear p d y z g;by_cases r:m=0
              · subst r
                rw[H.out] at b;go_wp2;go_ret;refine⟨fO ?_,q⟩;unfold fA;rw[<-b.out]
              · have L:((m:Int) == 0)=D:=by simp[r]
                obtain⟨m,rfl⟩:∃ QP,m=QP+1:=⟨m - 1,by omega⟩
                rw[x.out,pR t.out] at b;go_wp2;exact⟨⟨i+1,m,by omega,by omega,by go_num,by go_num,q,.inl ⟨rfl,b⟩⟩,by first | (simp[intOf];done) | (simp[intOf];omega)⟩
    · obtain rfl:i=s.size+1:=by omega
      rcases A with ⟨rfl,d⟩ | ⟨f,rfl,u,hz,p,d⟩
      · have b:=ae d
        rw[o.out _ (by omega),lR] at b;clear d;go_wp2;go_ret;refine⟨fO ?_,q⟩;unfold fA;rw[<-b.out]
      · omega
end Go.Proofs.YtkdimgejdocbbaaGreatDoor.Vp
