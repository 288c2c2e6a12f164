import Derived.Shelf.Strings.SlTrimAscii
import Derived.Lib.OthersKept
import Derived.Lib.TrimU
import Derived.Laws.Runes
import Derived.Deep.LoopGhost
import Derived.WalkMore
import Derived.Test.YtamacmnikdejeaaGreatDoorZW
import Derived.Shelf.Strings.Trim
import Derived.Shelf.Small.Utf8
import Derived.Shelf.Small.Strs
import Derived.Shelf.Strconv.Itoa0
import Derived.Shelf.Strconv.Itoa1
import Derived.Shelf.LaysM
import Derived.Shelf.Strconv.Itoa2
import Derived.Shelf.Strconv.Itoa3
import Derived.Shelf.Strings.Search1
import Derived.Shelf.Strings.Runes
import Derived.Shelf.Strings.IndexAny
import Derived.Shelf.Strings.AsciiSet
import Derived.Shelf.Strings.IndexAnyAll
import Derived.Shelf.Unicode.DecodeSlow
import Derived.Ground.Names2Prog
import Derived.Shelf.Slices.Clone
set_option maxHeartbeats 4000000
open Go.Value renaming string->U,int->I
open Go.IntKind renaming i64->J
open Bool renaming false->QQ,true->QR
open Go.Ending renaming returned->QU
namespace Go.Proofs
open Go.Shelf
end Go.Proofs
namespace Go.Proofs.YtamacmnikdejeaaGreatDoor.Vp
open RowKit
def eX (n:Nat):ByteArray:=⟨(Lib.decDigits n).toArray⟩
def iH (b:Bool):ByteArray:=if b then ⟨#[49]⟩ else ⟨#[48]⟩
theorem pD (x:Bool)(w:World):Calls Tryz.prog 194 #[.bool x] w fun e b=>e=QU (U (iH x))/\b=w:=by
 cases x
 all_goals
  go_enter Tryz.func194,Tryz.ntmps194;go_wp2;go_ret;exact⟨rfl,rfl⟩
def bR (c:UInt8):Bool:=([32,10]:List UInt8).contains c
def dk:List UInt8->Nat->List UInt8
 | l,0=>(l.dropWhile bR).takeWhile (fun c=>!bR c)
 | l,n+1=>if (l.dropWhile bR).takeWhile (fun c=>!bR c)=[] then [] else dk ((l.dropWhile bR).dropWhile (fun c=>!bR c)) n
def jY (s:ByteArray)(n:Nat):ByteArray:=⟨(dk s.data.toList n).toArray⟩
theorem mR (l:List UInt8)(n:Nat):dk l n=match n with
 | 0=>(l.dropWhile bR).takeWhile (fun c=>!bR c)
 | n+1=>if (l.dropWhile bR).takeWhile (fun c=>!bR c)=[] then [] else dk ((l.dropWhile bR).dropWhile (fun c=>!bR c)) n:=by
 cases n<;>simp[dk]
theorem gy (l:List UInt8)(p:UInt8->Bool):(l.dropWhile p).length<=l.length:=by
 induction l with
 | nil=>simp
 | cons b l ih =>
  rw[QC];split
  ·simp;omega
  ·simp
theorem mS (m:Nat):dk [] m=[]:=by cases m<;>simp[dk]
theorem ry {c:UInt8}{l:List UInt8}(h:bR c=QR)(m:Nat):dk (c :: l) m=dk l m:=by rw[mR,mR l];simp only[QC,h,QE]
theorem pE {u r:List UInt8}(i:u≠[])(h:∀ c∈u,bR c=QQ)(g:r=[]∨∃ c l,r=c :: l/\bR c=QR):(u++r).dropWhile bR=u++r/\(u++r).takeWhile (fun c=>!bR c)=u/\(u++r).dropWhile (fun c=>!bR c)=r:=by
 obtain⟨c,u',rfl⟩:=List.exists_cons_of_ne_nil i;refine⟨?_,?_,?_⟩
 ·rw[KH,QC,eI (by simp[h c (by simp)])]
 ·rw[List.takeWhile_append_of_pos (fun a f=>by simp[h a f])]
  rcases g with rfl | ⟨d,l,rfl,b⟩
  ·simp
  ·simp[b]
 ·rw[List.dropWhile_append_of_pos (fun a f=>by simp[h a f])]
  rcases g with rfl | ⟨d,l,rfl,b⟩
  ·simp
  ·simp[b]
theorem xQ {u r:List UInt8}(b:u≠[])(h:∀ c∈u,bR c=QQ)(f:r=[]∨∃ c l,r=c :: l/\bR c=QR):dk (u++r) 0=u:=by obtain⟨h1,h2,h3⟩:=pE b h f;rw[dk,h1,h2]
theorem xR {u r:List UInt8}(b:u≠[])(h:∀ c∈u,bR c=QQ)(f:r=[]∨∃ c l,r=c :: l/\bR c=QR)(m:Nat):dk (u++r) (m+1)=dk r m:=by obtain⟨h1,h2,g⟩:=pE b h f;rw[dk,h1,h2,g,eI b]
theorem vY (s:ByteArray)(f i:Nat)(hf:f<i)(hi:i<=s.size)(p:∀ j,(h:j<s.size)->f<=j->j<i->bR s[j]=QQ)(n:s.data.toList.drop i=[]∨∃ c l,s.data.toList.drop i=c :: l/\bR c=QR):dk (s.data.toList.drop f) 0=(s.extract f i).data.toList/\∀ m,dk (s.data.toList.drop f) (m+1)=dk (s.data.toList.drop i) m:=by
 have hL:s.data.toList.length=s.size:=rfl;have e:s.data.toList.drop f=(s.data.toList.drop f).take (i - f)++s.data.toList.drop i:=by
  conv=>lhs;rw[<-LJ (i - f) (s.data.toList.drop f)]
  rw[List.drop_drop];congr 2;omega
 have o:(s.extract f i).data.toList=(s.data.toList.drop f).take (i - f):=by simp only[ByteArray.data_extract,Array.toList_extract,List.extract_eq_take_drop]
 have g:(s.data.toList.drop f).take (i - f)≠[]:=by
  intro e;have q:((s.data.toList.drop f).take (i - f)).length=0:=by rw[e];rfl
  rw[JY,JZ] at q;omega
 have b:∀ c∈(s.data.toList.drop f).take (i - f),bR c=QQ:=by intro c b;obtain⟨j,r,rfl⟩:=NP.1 b;rw[JY,JZ] at r;have:=p (f+j) (by omega) (by omega) (by omega);simp only[List.getElem_take,PD,Array.getElem_toList];exact this
 refine⟨?_,fun m=>?_⟩
 ·rw[o]
  conv=>lhs;rw[e]
  exact xQ g b n
 ·conv=>lhs;rw[e]
  exact xR g b n m
theorem vh (s:ByteArray)(n:Nat)(w:World)(hs:s.size<=2000)(hn:n<=2000):Calls Tryz.prog 195 #[U s,I J n] w fun e R=>e=QU (U (jY s n))/\Below w.heap.size w R:=by
  have hL:s.data.toList.length=s.size:=rfl;have o:∀ i:Nat,(h:i<s.size)->s.data.toList.drop i=s[i] :: s.data.toList.drop (i+1):=fun i h=>NU (by rw[hL];exact h);have E:=ae o;have l:∀ i:Nat,s.size<=i->s.data.toList.drop i=[]:=fun i h=>List.drop_eq_nil_of_le (by rw[hL];exact h);have r:=ae l;clear o l;go_enter Tryz.func195,Tryz.ntmps195;go_wp2
  go_loopw [1,5,6] (fun S Q9 F wr=>∃ (i m:Nat),i<=s.size+1/\m<=2000/\F=I J i/\S=I J m/\Below w.heap.size w wr /\
      ((Q9=I J (-1)/\dk (s.data.toList.drop i) m=dk s.data.toList n) ∨
       ∃ f:Nat,Q9=I J f/\f<i/\i<=s.size/\(∀ j,(h:j<s.size)->f<=j->j<i->bR s[j]=QQ)/\dk (s.data.toList.drop f) m=dk s.data.toList n)) (fun _ _ F _=>s.size+1 - (intOf F).toNat)
  case atStart=>exact⟨0,n,by omega,hn,rfl,rfl,eL _ _,.inl ⟨rfl,rfl⟩⟩
  case round =>
    obtain⟨i,m,hi,C,rfl,rfl,M,B⟩:=hrel;have q:=ae M;clear M;by_cases hle:i<=s.size
    · by_cases O:i=s.size
      · subst O
        have g:=r.out s.size ly;have D:=r.out (s.size+1) (by omega);rcases B with ⟨rfl,b⟩ | ⟨f,rfl,y,_,p,b⟩
        · have c:=ae b
          rw[g,mS] at c;clear b g;go_wp2;exact⟨⟨s.size+1,m,by omega,C,by go_num,rfl,q,.inl ⟨rfl,by rw[D,mS];exact c⟩⟩,by first | (simp[intOf];done) | (simp[intOf];omega)⟩
        · obtain⟨x,A⟩:=vY s f s.size y ly p (.inl g)
          have G:=ae x;have z:=ae A;have c:=ae b;clear p b x A;rw[g] at z;clear g;by_cases t:m=0
          · subst t
            rw[G.out] at c;go_wp2;go_ret;refine⟨ny ?_,q⟩;unfold jY;rw[<-c.out]
          · have K:((m:Int) == 0)=QQ:=by simp[t]
            obtain⟨m,rfl⟩:∃ ZB,m=ZB+1:=⟨m - 1,by omega⟩
            go_wp2;exact⟨⟨s.size+1,m,by omega,by omega,by go_num,by go_num,q,.inl ⟨rfl,by rw[D,<-z.out];exact c⟩⟩,by first | (simp[intOf];done) | (simp[intOf];omega)⟩
      · have L:i<s.size:=by omega
        have heb:((i:Int) == (s.size:Int))=QQ:=by simp;omega
        have g:=E.out i L;cases hgp:bR s[i] with
        | false =>
          have QZ:((s[i].toNat:Int) == 32)=QQ:=by
            have:¬ s[i]=32:=fun e=>by rw[e] at hgp;exact absurd hgp (by decide)
            have h2:¬ s[i].toNat=32:=fun e=>this (UInt8.toNat_inj.1 e);simp;omega
          have P:((s[i].toNat:Int) == 10)=QQ:=by
            have:¬ s[i]=10:=fun e=>by rw[e] at hgp;exact absurd hgp (by decide)
            have h2:¬ s[i].toNat=10:=fun e=>this (UInt8.toNat_inj.1 e);simp;omega
          have u:=ae hgp;clear hgp;rcases B with ⟨rfl,b⟩ | ⟨f,rfl,y,_,p,b⟩
          · have c:=ae b
            clear b g;go_wp2
            exact⟨⟨i+1,m,by omega,C,by go_num,rfl,q,.inr ⟨i,rfl,by omega,by omega,fun j h h1 h2=>by
              obtain rfl:j=i:=by omega
              exact u,c⟩⟩,by first | (simp[intOf];done) | (simp[intOf];omega)⟩
          · have c:=ae b
            have ZA:=ae p;clear b g p;go_wp2
            exact⟨⟨i+1,m,by omega,C,by go_num,rfl,q,.inr ⟨f,rfl,by omega,by omega,fun j h h1 h2=>by
              by_cases e:j=i
              · subst e;exact u
              · exact ZA j h h1 (by omega),c⟩⟩,by first | (simp[intOf];done) | (simp[intOf];omega)⟩
        | true =>
          have Q0:((s[i].toNat:Int) == 32)=QR∨(((s[i].toNat:Int) == 32)=QQ/\((s[i].toNat:Int) == 10)=QR):=by
            have:s[i]=32∨s[i]=10:=by simpa[bR] using hgp
            rcases this with e | e
            · left;rw[e];rfl
            · right;rw[e];exact⟨rfl,rfl⟩
          have u:=ae hgp;clear hgp;rcases Q0 with QZ | ⟨QZ,P⟩
          all_goals
            rcases B with ⟨rfl,b⟩ | ⟨f,rfl,y,_,p,b⟩
            · have c:=ae b
              rw[g,ry u.out] at c;clear b g;go_wp2;exact⟨⟨i+1,m,by omega,C,by go_num,rfl,q,.inl ⟨rfl,c⟩⟩,by first | (simp[intOf];done) | (simp[intOf];omega)⟩
            · obtain⟨x,A⟩:=vY s f i y (by omega) p (.inr ⟨_,_,g,u⟩)
              have G:=ae x;have z:=ae A;have c:=ae b;rw[g] at z;clear p b x A g;by_cases t:m=0
              · subst t
                rw[G.out] at c;go_wp2;go_ret;refine⟨ny ?_,q⟩;unfold jY;rw[<-c.out]
              · have K:((m:Int) == 0)=QQ:=by simp[t]
                obtain⟨m,rfl⟩:∃ ZB,m=ZB+1:=⟨m - 1,by omega⟩
                rw[z.out,ry u.out] at c;go_wp2;exact⟨⟨i+1,m,by omega,by omega,by go_num,by go_num,q,.inl ⟨rfl,c⟩⟩,by first | (simp[intOf];done) | (simp[intOf];omega)⟩
    · obtain rfl:i=s.size+1:=by omega
      rcases B with ⟨rfl,b⟩ | ⟨f,rfl,y,hz,p,b⟩
      · have c:=ae b
        rw[r.out _ (by omega),mS] at c;clear b;go_wp2;go_ret;refine⟨ny ?_,q⟩;unfold jY;rw[<-c.out]
      · omega
end Go.Proofs.YtamacmnikdejeaaGreatDoor.Vp
