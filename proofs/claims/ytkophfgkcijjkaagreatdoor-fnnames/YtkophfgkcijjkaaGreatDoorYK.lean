import Derived.Test.YtkophfgkcijjkaaGreatDoorZE
import Derived.Shelf.Strings.SlTrimAscii
import Derived.Lib.OthersKept
import Derived.Lib.TrimU
import Derived.Laws.Runes
import Derived.Deep.LoopGhost
import Derived.WalkMore
import Derived.Shelf.Strings.Trim
import Derived.Shelf.Small.Utf8
import Derived.Shelf.Small.Strs
import Derived.Shelf.Strconv.Itoa0
import Derived.Shelf.Strconv.Itoa1
import Derived.Shelf.LaysM
import Derived.Shelf.Strconv.Itoa2
import Derived.Shelf.Strconv.Itoa3
import Derived.Shelf.Strings.Search1
import Derived.Shelf.Strings.Runes
import Derived.Shelf.Strings.IndexAny
import Derived.Shelf.Strings.AsciiSet
import Derived.Shelf.Strings.IndexAnyAll
import Derived.Shelf.Unicode.DecodeSlow
import Derived.Ground.Names2Prog
import Derived.Shelf.Slices.Clone
import Derived.Ground.SlgmProg
import Derived.Shelf.SortM.Plain
import Derived.Shelf.SortM.SortNone
set_option maxHeartbeats 4000000
namespace Go.Proofs
open Go.Shelf
def Tryz.laysSlM6_f211_ren:Go.Shelf.Ren:=⟨fun | 6=>211 | 8=>233 | 9=>232 | 19=>251 | 20=>252 | 21=>243 | 22=>244 | 23=>245 | 24=>246 | 25=>247 | 26=>248 | 27=>190 | 28=>249 | 29=>250 | 36=>267 | 31=>268 | 32=>269 | 37=>270 | 38=>271 | 39=>217 | 41=>286 | n=>n,fun | 27=>39 | 29=>9 | 3=>3 | 32=>246 | 26=>39 | 0=>0 | 44=>310 | 46=>312 | 4=>4 | 36=>304 | 35=>303 | 41=>96 | 5=>5 | 9=>9 | 53=>330 | 57=>334 | 63=>346 | 64=>62 | n=>n,fun | n=>n⟩
theorem Tryz.laysSlM6_f211:Go.Proofs.SlLaysM.n6 Tryz.prog Tryz.laysSlM6_f211_ren:={
 mixed:=by kernel_rfl
 f6:=⟨Tryz.f211.name,by decide,Tryz.func211.trans (congrArg some (by kernel_rfl))⟩
 f8:=Tryz.func233.trans (congrArg some (by kernel_rfl))
 f9:=⟨Tryz.f232.name,by decide,Tryz.func232.trans (congrArg some (by kernel_rfl))⟩
 f19:=Tryz.func251.trans (congrArg some (by kernel_rfl))
 f20:=Tryz.func252.trans (congrArg some (by kernel_rfl))
 f21:=⟨Tryz.f243.name,by decide,Tryz.func243.trans (congrArg some (by kernel_rfl))⟩
 f22:=⟨Tryz.f244.name,by decide,Tryz.func244.trans (congrArg some (by kernel_rfl))⟩
 f23:=⟨Tryz.f245.name,by decide,Tryz.func245.trans (congrArg some (by kernel_rfl))⟩
 f24:=⟨Tryz.f246.name,by decide,Tryz.func246.trans (congrArg some (by kernel_rfl))⟩
 f25:=⟨Tryz.f247.name,by decide,Tryz.func247.trans (congrArg some (by kernel_rfl))⟩
 f26:=⟨Tryz.f248.name,by decide,Tryz.func248.trans (congrArg some (by kernel_rfl))⟩
 f27:=⟨Tryz.f190.name,by decide,Tryz.func190.trans (congrArg some (by kernel_rfl))⟩
 f28:=⟨Tryz.f249.name,by decide,Tryz.func249.trans (congrArg some (by kernel_rfl))⟩
 f29:=⟨Tryz.f250.name,by decide,Tryz.func250.trans (congrArg some (by kernel_rfl))⟩
 f31:=Tryz.func268.trans (congrArg some (by kernel_rfl))
 f32:=Tryz.func269.trans (congrArg some (by kernel_rfl))
 f36:=⟨Tryz.f267.name,by decide,Tryz.func267.trans (congrArg some (by kernel_rfl))⟩
 f37:=⟨Tryz.f270.name,by decide,Tryz.func270.trans (congrArg some (by kernel_rfl))⟩
 f38:=⟨Tryz.f271.name,by decide,Tryz.func271.trans (congrArg some (by kernel_rfl))⟩
 f39:=⟨Tryz.f217.name,by decide,Tryz.func217.trans (congrArg some (by kernel_rfl))⟩
 f41:=⟨Tryz.f286.name,by decide,Tryz.func286.trans (congrArg some (by kernel_rfl))⟩
 t0:=Tryz.underlying0
 a0:=Tryz.isAgg0
 z0:=Tryz.sizeOf0
 v0:=Tryz.zeroValue0
 t3:=Tryz.underlying3
 a3:=Tryz.isAgg3
 z3:=Tryz.sizeOf3
 v3:=Tryz.zeroValue3
 t4:=Tryz.underlying4
 a4:=Tryz.isAgg4
 z4:=Tryz.sizeOf4
 v4:=Tryz.zeroValue4
 t5:=Tryz.underlying5
 a5:=Tryz.isAgg5
 z5:=Tryz.sizeOf5
 v5:=Tryz.zeroValue5
 t9:=Tryz.underlying9
 a9:=Tryz.isAgg9
 z9:=Tryz.sizeOf9
 v9:=Tryz.zeroValue9
 t26:=Tryz.underlying39
 a26:=Tryz.isAgg39
 z26:=Tryz.sizeOf39
 v26:=Tryz.zeroValue39
 t27:=Tryz.underlying39
 a27:=Tryz.isAgg39
 z27:=Tryz.sizeOf39
 v27:=Tryz.zeroValue39
 t29:=Tryz.underlying9
 a29:=Tryz.isAgg9
 z29:=Tryz.sizeOf9
 v29:=Tryz.zeroValue9
 t32:=Tryz.underlying246
 a32:=Tryz.isAgg246
 z32:=Tryz.sizeOf246
 v32:=Tryz.zeroValue246
 t35:=Tryz.underlying303
 a35:=Tryz.isAgg303
 z35:=Tryz.sizeOf303
 v35:=Tryz.zeroValue303
 t36:=Tryz.underlying304
 a36:=Tryz.isAgg304
 z36:=Tryz.sizeOf304
 v36:=Tryz.zeroValue304
 t41:=Tryz.underlying96
 a41:=Tryz.isAgg96
 z41:=Tryz.sizeOf96
 v41:=Tryz.zeroValue96
 t44:=Tryz.underlying310
 a44:=Tryz.isAgg310
 z44:=Tryz.sizeOf310
 v44:=Tryz.zeroValue310
 t46:=Tryz.underlying312
 a46:=Tryz.isAgg312
 z46:=Tryz.sizeOf312
 v46:=Tryz.zeroValue312
 t53:=Tryz.underlying330
 a53:=Tryz.isAgg330
 z53:=Tryz.sizeOf330
 v53:=Tryz.zeroValue330
 t57:=Tryz.underlying334
 a57:=Tryz.isAgg334
 z57:=Tryz.sizeOf334
 v57:=Tryz.zeroValue334
 t63:=Tryz.underlying346
 a63:=Tryz.isAgg346
 z63:=Tryz.sizeOf346
 v63:=Tryz.zeroValue346
 t64:=Tryz.underlying62
 a64:=Tryz.isAgg62
 z64:=Tryz.sizeOf62
 v64:=Tryz.zeroValue62 }
open Go.Sort RowKit in
theorem Tryz.slices_Sort_string (blk off cap:Nat)(b:List (List UInt8))(w:World)(hH:Holds encStr w blk off b.toArray)(c:blk<w.heap.size)(d:b.length<4611686018427387904):Calls Tryz.prog 211 #[.slice (some ⟨blk,off,none⟩) b.length cap] w fun e f =>e=.returned (.tuple #[])/\∃ n os,f=grow (putRow encStr (Sort.ahead w n) blk off (b.mergeSort fun x y=>decide (x<=y)).toArray) os:=AnyM.slices_Sort_string Tryz.laysSlM6_f211 blk off cap b w hH c d
open RowKit Go.Sort in
theorem Tryz.slices_Sort_string_none (p:Option Addr)(cap:Nat)(w:World):Calls Tryz.prog 211 #[.slice p 0 cap] w fun e b=>e=.returned (.tuple #[])/\b=w:=AnyM.slices_Sort_string_none Tryz.laysSlM6_f211 p cap w
end Go.Proofs
namespace Go.Proofs.YtkophfgkcijjkaaGreatDoor.Vp
open RowKit
def bu (c:UInt8):Bool:=([32,10]:List UInt8).contains c
def cR:List UInt8->Nat->List UInt8
 | l,0=>(l.dropWhile bu).takeWhile (fun c=>!bu c)
 | l,n+1=>if (l.dropWhile bu).takeWhile (fun c=>!bu c)=[] then [] else cR ((l.dropWhile bu).dropWhile (fun c=>!bu c)) n
def ik (s:ByteArray)(n:Nat):ByteArray:=⟨(cR s.data.toList n).toArray⟩
theorem jO (l:List UInt8)(n:Nat):cR l n=match n with
 | 0=>(l.dropWhile bu).takeWhile (fun c=>!bu c)
 | n+1=>if (l.dropWhile bu).takeWhile (fun c=>!bu c)=[] then [] else cR ((l.dropWhile bu).dropWhile (fun c=>!bu c)) n:=by
 cases n<;>simp[cR]
theorem fj (l:List UInt8)(p:UInt8->Bool):(l.dropWhile p).length<=l.length:=by
 induction l with
 | nil=>simp
 | cons b l ih =>
  rw[List.dropWhile_cons];split
  ·simp;omega
  ·simp
theorem jP (m:Nat):cR [] m=[]:=by cases m<;>simp[cR]
theorem nM {c:UInt8}{l:List UInt8}(h:bu c=true)(m:Nat):cR (c :: l) m=cR l m:=by rw[jO,jO l];simp only[List.dropWhile_cons,h,if_true]
theorem lW {u r:List UInt8}(i:u≠[])(h:∀ c∈u,bu c=false)(g:r=[]∨∃ c l,r=c :: l/\bu c=true):(u++r).dropWhile bu=u++r/\(u++r).takeWhile (fun c=>!bu c)=u/\(u++r).dropWhile (fun c=>!bu c)=r:=by
 obtain⟨c,u',rfl⟩:=List.exists_cons_of_ne_nil i;refine⟨?_,?_,?_⟩
 ·rw[List.cons_append,List.dropWhile_cons,if_neg (by simp[h c (by simp)])]
 ·rw[List.takeWhile_append_of_pos (fun a b=>by simp[h a b])]
  rcases g with rfl | ⟨d,l,rfl,f⟩
  ·simp
  ·simp[f]
 ·rw[List.dropWhile_append_of_pos (fun a b=>by simp[h a b])]
  rcases g with rfl | ⟨d,l,rfl,f⟩
  ·simp
  ·simp[f]
theorem sS {u r:List UInt8}(f:u≠[])(h:∀ c∈u,bu c=false)(d:r=[]∨∃ c l,r=c :: l/\bu c=true):cR (u++r) 0=u:=by obtain⟨b,g,h3⟩:=lW f h d;rw[cR,b,g]
theorem sT {u r:List UInt8}(b:u≠[])(h:∀ c∈u,bu c=false)(g:r=[]∨∃ c l,r=c :: l/\bu c=true)(m:Nat):cR (u++r) (m+1)=cR r m:=by obtain⟨f,i,d⟩:=lW b h g;rw[cR,f,i,d,if_neg b]
theorem rO (s:ByteArray)(f i:Nat)(hf:f<i)(hi:i<=s.size)(o:∀ j,(h:j<s.size)->f<=j->j<i->bu s[j]=false)(d:s.data.toList.drop i=[]∨∃ c l,s.data.toList.drop i=c :: l/\bu c=true):cR (s.data.toList.drop f) 0=(s.extract f i).data.toList/\∀ m,cR (s.data.toList.drop f) (m+1)=cR (s.data.toList.drop i) m:=by
 have hL:s.data.toList.length=s.size:=rfl;have e:s.data.toList.drop f=(s.data.toList.drop f).take (i - f)++s.data.toList.drop i:=by
  conv=>lhs;rw[<-List.take_append_drop (i - f) (s.data.toList.drop f)]
  rw[List.drop_drop];congr 2;omega
 have n:(s.extract f i).data.toList=(s.data.toList.drop f).take (i - f):=by simp only[ByteArray.data_extract,Array.toList_extract,List.extract_eq_take_drop]
 have g:(s.data.toList.drop f).take (i - f)≠[]:=by
  intro e;have k:((s.data.toList.drop f).take (i - f)).length=0:=by rw[e];rfl
  rw[List.length_take,List.length_drop] at k;omega
 have b:∀ c∈(s.data.toList.drop f).take (i - f),bu c=false:=by intro c b;obtain⟨j,p,rfl⟩:=List.mem_iff_getElem.1 b;rw[List.length_take,List.length_drop] at p;have:=o (f+j) (by omega) (by omega) (by omega);simp only[List.getElem_take,List.getElem_drop,Array.getElem_toList];exact this
 refine⟨?_,fun m=>?_⟩
 ·rw[n]
  conv=>lhs;rw[e]
  exact sS g b d
 ·conv=>lhs;rw[e]
  exact sT g b d m
theorem qR (s:ByteArray)(n:Nat)(w:World)(hs:s.size<=2000)(hn:n<=2000):Calls Tryz.prog 275 #[.string s,.int .i64 n] w fun e R=>e=.returned (.string (ik s n))/\Below w.heap.size w R:=by
  have hL:s.data.toList.length=s.size:=rfl;have k:∀ i:Nat,(h:i<s.size)->s.data.toList.drop i=s[i] :: s.data.toList.drop (i+1):=fun i h=>List.drop_eq_getElem_cons (by rw[hL];exact h);have E:=ae k;have g:∀ i:Nat,s.size<=i->s.data.toList.drop i=[]:=fun i h=>List.drop_eq_nil_of_le (by rw[hL];exact h);have o:=ae g;clear k g;go_enter Tryz.func275,Tryz.ntmps275;go_wp2
  go_loopw [1,5,6] (fun T M H wr=>∃ (i m:Nat),i<=s.size+1/\m<=2000/\H=.int .i64 i/\T=.int .i64 m/\Below w.heap.size w wr /\
      ((M=.int .i64 (-1)/\cR (s.data.toList.drop i) m=cR s.data.toList n) ∨
       ∃ f:Nat,M=.int .i64 f/\f<i/\i<=s.size/\(∀ j,(h:j<s.size)->f<=j->j<i->bu s[j]=false)/\cR (s.data.toList.drop f) m=cR s.data.toList n)) (fun _ _ H _=>s.size+1 - (intOf H).toNat)
  case atStart=>exact⟨0,n,by omega,hn,rfl,rfl,Below.refl _ _,.inl ⟨rfl,rfl⟩⟩
  case round =>
    obtain⟨i,m,hi,z,rfl,rfl,N,A⟩:=hrel;have p:=ae N;clear N;by_cases hle:i<=s.size
    · by_cases P:i=s.size
      · subst P
        have d:=o.out s.size ly;have B:=o.out (s.size+1) (by omega);rcases A with ⟨rfl,c⟩ | ⟨f,rfl,y,_,l,c⟩
        · have b:=ae c
          rw[d,jP] at b;clear c d;go_wp2;exact⟨⟨s.size+1,m,by omega,z,by go_num,rfl,p.out,.inl ⟨rfl,by rw[B,jP];exact b.out⟩⟩,by first | (simp[intOf];done) | (simp[intOf];omega)⟩
        · obtain⟨u,t⟩:=rO s f s.size y ly l (.inl d)
          have D:=ae u;have x:=ae t;have b:=ae c;clear l c u t;rw[d] at x;clear d;by_cases q:m=0
          · subst q
            rw[D.out] at b;go_wp2;go_ret;refine⟨j6 ?_,p.out⟩;unfold ik;rw[<-b.out]
          · have L:((m:Int) == 0)=false:=by simp[q]
            obtain⟨m,rfl⟩:∃ C,m=C+1:=⟨m - 1,by omega⟩
            go_wp2;exact⟨⟨s.size+1,m,by omega,by omega,by go_num,by go_num,p.out,.inl ⟨rfl,by rw[B,<-x.out];exact b.out⟩⟩,by first | (simp[intOf];done) | (simp[intOf];omega)⟩
      · have K:i<s.size:=by omega
        have heb:((i:Int) == (s.size:Int))=false:=by simp;omega
        have d:=E.out i K;cases hgp:bu s[i] with
        | false =>
          have I:((s[i].toNat:Int) == 32)=false:=by
            have:¬ s[i]=32:=fun e=>by rw[e] at hgp;exact absurd hgp (by decide)
            have G:¬ s[i].toNat=32:=fun e=>this (UInt8.toNat_inj.1 e);simp;omega
          have Q:((s[i].toNat:Int) == 10)=false:=by
            have:¬ s[i]=10:=fun e=>by rw[e] at hgp;exact absurd hgp (by decide)
            have G:¬ s[i].toNat=10:=fun e=>this (UInt8.toNat_inj.1 e);simp;omega
          have r:=ae hgp;clear hgp;rcases A with ⟨rfl,c⟩ | ⟨f,rfl,y,_,l,c⟩
          · have b:=ae c
            clear c d;go_wp2
            exact⟨⟨i+1,m,by omega,z,by go_num,rfl,p.out,.inr ⟨i,rfl,by omega,by omega,fun j h J G=>by
              obtain rfl:j=i:=by omega
              exact r.out,b.out⟩⟩,by first | (simp[intOf];done) | (simp[intOf];omega)⟩
          · have b:=ae c
            have O:=ae l;clear c d l;go_wp2
            exact⟨⟨i+1,m,by omega,z,by go_num,rfl,p.out,.inr ⟨f,rfl,by omega,by omega,fun j h J G=>by
              by_cases e:j=i
              · subst e;exact r.out
              · exact O.out j h J (by omega),b.out⟩⟩,by first | (simp[intOf];done) | (simp[intOf];omega)⟩
        | true =>
          have S:((s[i].toNat:Int) == 32)=true∨(((s[i].toNat:Int) == 32)=false/\((s[i].toNat:Int) == 10)=true):=by
            have:s[i]=32∨s[i]=10:=by simpa[bu] using hgp
            rcases this with e | e
            · left;rw[e];rfl
            · right;rw[e];exact⟨rfl,rfl⟩
          have r:=ae hgp;clear hgp;rcases S with I | ⟨I,Q⟩
          all_goals
            rcases A with ⟨rfl,c⟩ | ⟨f,rfl,y,_,l,c⟩
            · have b:=ae c
              rw[d,nM r.out] at b;clear c d;go_wp2;exact⟨⟨i+1,m,by omega,z,by go_num,rfl,p.out,.inl ⟨rfl,b.out⟩⟩,by first | (simp[intOf];done) | (simp[intOf];omega)⟩
            · obtain⟨u,t⟩:=rO s f i y (by omega) l (.inr ⟨_,_,d,r.out⟩)
              have D:=ae u;have x:=ae t;have b:=ae c;rw[d] at x;clear l c u t d;by_cases q:m=0
              · subst q
                rw[D.out] at b;go_wp2;go_ret;refine⟨j6 ?_,p.out⟩;unfold ik;rw[<-b.out]
              · have L:((m:Int) == 0)=false:=by simp[q]
                obtain⟨m,rfl⟩:∃ C,m=C+1:=⟨m - 1,by omega⟩
                rw[x.out,nM r.out] at b;go_wp2;exact⟨⟨i+1,m,by omega,by omega,by go_num,by go_num,p.out,.inl ⟨rfl,b.out⟩⟩,by first | (simp[intOf];done) | (simp[intOf];omega)⟩
    · obtain rfl:i=s.size+1:=by omega
      rcases A with ⟨rfl,c⟩ | ⟨f,rfl,y,hz,l,c⟩
      · have b:=ae c
        rw[o.out _ (by omega),jP] at b;clear c;go_wp2;go_ret;refine⟨j6 ?_,p.out⟩;unfold ik;rw[<-b.out]
      · omega
end Go.Proofs.YtkophfgkcijjkaaGreatDoor.Vp
