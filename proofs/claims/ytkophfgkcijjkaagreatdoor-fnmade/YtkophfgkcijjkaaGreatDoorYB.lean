import Derived.Test.YtkophfgkcijjkaaGreatDoorZD
import Derived.Test.YtkophfgkcijjkaaGreatDoorZS
import Derived.Shelf.Strings.SlTrimAscii
import Derived.Lib.OthersKept
import Derived.Lib.TrimU
import Derived.Laws.Runes
import Derived.Deep.LoopGhost
import Derived.WalkMore
set_option maxRecDepth 1000000
set_option maxHeartbeats 8000000
namespace Go.Proofs.YtkophfgkcijjkaaGreatDoor.Vp
open RowKit
theorem nH {r:Int}(h:Utf8.valid r=true):Lib.validRune r=true:=by
 unfold Utf8.valid at h
 unfold Lib.validRune
 simp at *
 omega
theorem nI (r:Int)(w:World)(h1:128≤r)(h2:r≤1114111)(hv:Utf8.valid r=true)(hr:¬ r=65533) :
  Calls Tryz.prog 264 #[.string ⟨#[32,10]⟩,.int .i32 r] w fun e w'=>e=.returned (.int .i64 (-1))∧Below w.heap.size w w':=by
 obtain ⟨e1,e2,e3⟩:=encode_facts r hv h1
 have hvr:=nH hv
 have hne:(r == 65533)=false:=by simp [hr]
 have hcv:∀ w:World,(convert 21 9 (.int .i32 r)).run Tryz.prog w=.ok (.string (Utf8.encode r)) w:=fun w=>run_convert_int_string w _ _ _ _ (by rw [Tryz.underlying21];rfl) Tryz.underlying9
 generalize Utf8.encode r=E at *
 have hn1:((E.size:Int) - 1).toNat=E.size - 1:=by omega
 go_enter Tryz.func264,Tryz.ntmps264
 go_wp2_with fail
 refine (Tryz.utf8_ValidRune r _).mono ?_
 rintro e w1 ⟨rfl,rfl⟩
 rw [hvr]
 go_wp2_with fail
 go_step3
 by_cases h3:E.size=2
 ·have hlast:=e3 (by omega)
  obtain ⟨⟨l⟩⟩:=E
  obtain ⟨x,y,rfl⟩:∃ x y,l=[x,y]:=by
   match l,h3 with
   | [x,y],_=>exact ⟨x,y,rfl⟩
  have hy:128≤y.toNat:=hlast
  have hyn:((10:Int) != (y.toNat:Int))=true:=by simp;omega
  clear e3 hlast e1 e2 hn1 h3
  have i1:∀ w:World,(Instr.index 9 (.string ⟨#[32,10]⟩) (.int .i64 1)).run Tryz.prog w=.ok (.int .u8 10) w:=fun w=>by kernel_rfl
  have i2:∀ w:World,(Instr.index 9 (.string ⟨⟨[x,y]⟩⟩) (.int .i64 1)).run Tryz.prog w=.ok (.int .u8 y.toNat) w:=fun w=>by kernel_rfl
  have i3:∀ w:World,(Instr.slice 9 (.string ⟨#[32,10]⟩) (some (.int .i64 2)) none none).run Tryz.prog w=.ok (.string ⟨#[]⟩) w:=fun w=>by kernel_rfl
  go_wp2
  go_loop [9] (fun i=>i=.int .i64 1) (fun _=>0)
  case atStart=>rfl
  case round =>
   subst hrel
   go_wp2_with fail
   go_step3
   go_wp2_with fail
   go_region_with fail
   all_goals
    go_wp2_with fail
    go_region_with (go_at_call 282;refine (Tryz.strings_IndexByte _ _ _).mono ?_;rintro e w2 ⟨rfl,hw2⟩;subst hw2)
    all_goals
     go_wp2
     rw [Exit.noGoto_ret]
     go_wp2
     rw [Exit.noGoto_ret]
     go_wp2
     go_ret
     exact ⟨rfl,(by repeat (first | exact Below.refl _ _ | apply Below.drew))⟩
 ·have h4:¬ ((E.size:Int) - 1<2):=by omega
  go_wp2
  go_loop [9] (fun i=>i=.int .i64 ((E.size:Int) - 1)) (fun _=>0)
  case atStart=>rfl
  case round =>
   subst hrel
   go_wp2
   go_ret
   exact ⟨rfl,Below.refl _ _⟩
theorem mE (w:World) :
  Calls Tryz.prog 264 #[.string ⟨#[32,10]⟩,.int .i32 65533] w fun e w'=>e=.returned (.int .i64 (-1))∧Below w.heap.size w w':=by
 have n0:=fun ty=>run_next_ascii (P:=Tryz.prog) w ⟨#[32,10]⟩ 0 ty (by decide) (by decide)
 have n1:=fun ty=>run_next_ascii (P:=Tryz.prog) w ⟨#[32,10]⟩ 1 ty (by decide) (by decide)
 have n2:=run_next_end (P:=Tryz.prog) w ⟨#[32,10]⟩ 2
 go_enter Tryz.func264,Tryz.ntmps264
 go_wp2
 go_loopg [] 2 (fun g wx=>∃ i:Nat,i+g=2∧wx=w.iter ⟨#[32,10]⟩ i)
 case atStart=>exact ⟨0,by omega,rfl⟩
 case round =>
  obtain ⟨i,hig,rfl⟩:=hrel
  rcases (show i=0∨i=1∨i=2 by omega) with rfl | rfl | rfl
  ·go_wp2
   go_roundg 1
   case measure=>omega
   case rel=>exact ⟨1,by omega,rfl⟩
  ·go_wp2
   go_roundg 0
   case measure=>omega
   case rel=>exact ⟨2,by omega,rfl⟩
  ·go_wp2
   go_ret
   exact ⟨rfl,(Below.refl _ w).alloc lr _⟩
theorem su (s:ByteArray)(pos:Nat)(hp:pos<s.size)(h:128≤(s.get! pos).toNat) :
  128≤(Utf8.decode s pos).1∧Utf8.valid (Utf8.decode s pos).1=true∧pos+(Utf8.decode s pos).2≤s.size∧∀ j,j<(Utf8.decode s pos).2→128≤(s.get! (pos+j)).toNat:=by
 rw [Lib.decode_at]
 have b0:=UInt8.toNat_lt (s.get! pos)
 unfold Lib.decodeN Utf8.valid
 rw [if_neg (by omega)]
 repeat' split
 all_goals
  refine ⟨by simp only;omega,by first | (simp;done) | (simp;omega),by simp only;omega,?_⟩
  intro j hj
  simp only at hj
  rcases (show j=0∨j=1∨j=2∨j=3 by omega) with rfl | rfl | rfl | rfl
  all_goals first | exact h | omega
theorem sy (s:ByteArray)(pos:Nat)(h:(s.get! pos).toNat<128):Utf8.decode s pos=((s.get! pos).toNat,1):=by
 rw [Lib.decode_at]
 unfold Lib.decodeN
 rw [if_pos h]
theorem pA (s:ByteArray)(i:Nat)(h:i<s.size):s.data.toList[i]?=some (s.get! i):=by
 rw [Lib.data_getElem? s i h]
 obtain ⟨a⟩:=s
 exact congrArg some (getElem!_pos a i h).symm
theorem ug {s:ByteArray}{pos:Nat}(K:Nat)(h:Lib.NoAny s.data.toList [32,10] pos)(hK:pos+K≤s.size)(hj:∀ j,j<K→128≤(s.get! (pos+j)).toNat):Lib.NoAny s.data.toList [32,10] (pos+K):=by
 intro j b hjk hb
 by_cases e:j<pos
 ·exact h j b e hb
 ·have h2:=hj (j - pos) (by omega)
  rw [show pos+(j - pos)=j by omega] at h2
  rw [pA s j (by omega)] at hb
  obtain rfl:=Option.some.inj hb
  simp
  refine ⟨?_,?_⟩
  ·intro e;rw [e] at h2;simp at h2
  ·intro e;rw [e] at h2;simp at h2
theorem lc (s:ByteArray)(w:World)(h8:(s.size:Int)≤8) :
  Calls Tryz.prog 242 #[.string s,.string ⟨#[32,10]⟩] w fun e w'=>e=.returned (.int .i64 (Lib.indexAny s.data.toList [32,10]))∧Below w.heap.size w w':=by
 have h8z:decide ((8:Int)<(s.size:Int))=false:=decide_eq_false (by omega)
 go_enter Tryz.func242,Tryz.ntmps242
 go_wp2_with fail
 refine (Tryz.strings_shouldUseASCIISet _ _).mono ?_
 rintro e w1 ⟨rfl,rfl⟩
 rw [h8z]
 go_wp2
 go_loopg [9,10] s.size (fun g _ _ wx=>∃ pos:Nat,s.size≤pos+g∧wx.heap[w1.heap.size]?=some (.stringIter s pos)∧Below w1.heap.size w1 wx∧Lib.NoAny s.data.toList [32,10] pos∧pos≤s.size)
 case atStart=>exact ⟨0,by omega,World.iter_heap w1 s 0,(Below.refl _ w1).alloc lr _,Lib.NoAny.zero _ _,by omega⟩
 case round =>
  obtain ⟨pos,hpg,hit,hbw,hno,hps⟩:=hrel
  have HI:=ae hit
  have HN:=ae hno
  have HB:=ae hbw
  clear hbw hno
  by_cases hp:pos<s.size
  ·obtain ⟨g,rfl⟩:∃ g,gk=g+1:=⟨gk - 1,by omega⟩
   have hnx:∀ ty,(Instr.next (.pointer (some ⟨w1.heap.size,0,none⟩)) true ty).run Tryz.prog wr=_:=fun ty=>Lib.run_next_any_at wr w1.heap.size s pos ty hit hp
   clear hit
   have hxl:=pA s pos hp
   obtain ⟨x,hx⟩:∃ x,s.get! pos=x:=⟨_,rfl⟩
   by_cases h128:x.toNat<128
   ·have hd:=sy s pos (by rw [hx];exact h128)
    rw [hx] at hd hxl
    rw [hd] at hnx
    have HX:=ae hxl
    have HI2:=ae (Lib.iterAt_heap wr w1.heap.size s pos (pos+1) HI.out)
    have HB2:=ae (Lib.below_iterAt HB.out (k:=w1.heap.size) lr s (pos+1))
    have hback:((x.toNat:Int)).toNat.toUInt8=x:=by simp
    have hcon:=Lib.contains_iff_indexByte [32,10] x
    clear hd hxl hx
    cases hin:([32,10]:List UInt8).contains x with
    | false =>
     rw [hin] at hcon
     have hlt:¬ ((0:Int)≤Lib.indexByte [32,10] x):=of_decide_eq_false hcon.symm
     have HH:=ae hin
     clear hcon hin
     go_wp2_with fail
     refine (Tryz.strings_IndexRune_ascii _ _ _ (by omega) (by omega)).mono ?_
     rintro e w2 ⟨rfl,hw⟩
     rw [hw,hback]
     clear hw
     go_wp2
     go_roundg g
     case measure=>omega
     case rel=>exact ⟨pos+1,by omega,HI2.out,HB2.out,HN.out.succ HX.out HH.out,by omega⟩
    | true =>
     rw [hin] at hcon
     have hge:(0:Int)≤Lib.indexByte [32,10] x:=of_decide_eq_true hcon.symm
     have HH:=ae hin
     clear hcon hin
     go_wp2_with fail
     refine (Tryz.strings_IndexRune_ascii _ _ _ (by omega) (by omega)).mono ?_
     rintro e w2 ⟨rfl,hw⟩
     rw [hw,hback]
     clear hw
     go_wp2
     go_ret
     exact ⟨by rw [Lib.indexAny_hit HN.out HX.out HH.out];rfl,HB2.out⟩
   ·obtain ⟨d1,d2,d3,d4⟩:=su s pos hp (by rw [hx];omega)
    have hr1:=Lib.rune_le s pos
    have hwd:=Lib.width_pos s pos
    obtain ⟨R,hR⟩:∃ R,(Utf8.decode s pos).1=R:=⟨_,rfl⟩
    obtain ⟨K,hK⟩:∃ K,(Utf8.decode s pos).2=K:=⟨_,rfl⟩
    rw [hR] at d1 d2 hr1 hnx
    rw [hK] at d3 d4 hwd hnx
    have HN2:=ae (ug K HN.out d3 d4)
    have HI2:=ae (Lib.iterAt_heap wr w1.heap.size s pos (pos+K) HI.out)
    have HB2:=ae (Lib.below_iterAt HB.out (k:=w1.heap.size) lr s (pos+K))
    have hsz:w1.heap.size<(wr.iterAt w1.heap.size s (pos+K)).heap.size:=(Array.getElem?_eq_some_iff.1 HI2.out).1
    clear d4 hxl hx hR hK
    have key:∀ W:World,Calls Tryz.prog 264 #[.string ⟨#[32,10]⟩,.int .i32 (R:Int)] W fun e w'=>e=.returned (.int .i64 (-1))∧Below W.heap.size W w':=by
     intro W
     by_cases hbad:(R:Int)=65533
     ·rw [hbad]
      exact mE W
     ·exact nI _ W (by omega) (by omega) d2 hbad
    have KEY:=ae key
    clear key
    go_wp2_with fail
    refine (KEY.out _).mono ?_
    rintro e w2 ⟨rfl,hB2⟩
    have HB3:=ae (HB2.out.trans (hB2.mono (Nat.le_of_lt hsz)))
    have HI3:=ae ((hB2.block w1.heap.size hsz).trans HI2.out)
    clear hB2
    go_wp2
    go_roundg g
    case measure=>omega
    case rel=>exact ⟨pos+K,by omega,HI3.out,HB3.out,HN2.out,by omega⟩
  ·have hnx:∀ ty,(Instr.next (.pointer (some ⟨w1.heap.size,0,none⟩)) true ty).run Tryz.prog wr=_:=fun ty=>Lib.run_next_end_at wr w1.heap.size s pos ty hit hp
   clear hit
   have e:pos=s.size:=by omega
   subst e
   go_wp2
   go_ret
   exact ⟨by rw [Lib.indexAny_none (by rw [← Lib.size_eq];exact HN.out)];rfl,HB.out⟩
theorem kj:∀ (j:Nat) b,(([32,10]:List UInt8))[j]?=some b→b.toNat<128:=by
 intro j b h
 match j with
 | 0=>simp at h;subst h;decide
 | 1=>simp at h;subst h;decide
 | j+2=>simp at h
theorem nJ (s:ByteArray)(w:World)(hs:s.size<4294967281) :
  Calls Tryz.prog 242 #[.string s,.string ⟨#[32,10]⟩] w fun e w'=>e=.returned (.int .i64 (Lib.indexAny s.data.toList [32,10]))∧Below w.heap.size w w':=by
 by_cases h:(s.size:Int)≤8
 ·exact lc s w h
 ·refine (Tryz.strings_IndexAny_long (zero_of_info (n:=256) (by kernel_rfl)).1 s ⟨#[32,10]⟩ w (by decide) (by omega) hs (by decide) kj).mono ?_
  rintro e w' ⟨rfl,rfl⟩
  exact ⟨rfl,(br.alloc lr _).alloc (by simp) _⟩
theorem nK (s:ByteArray)(w:World) :
  Calls Tryz.prog 241 #[.string s,.string ⟨#[32,10]⟩] w fun e w'=>e=.returned (.string ⟨(Lib.trimLeftS s.data.toList [32,10]).toArray⟩)∧Below w.heap.size w w' :=
 Any.strings_TrimLeft_laid Tryz.lays161 (by kernel_rfl) s ⟨#[32,10]⟩ w (by decide) kj
def be (c:UInt8):Bool:=([32,10]:List UInt8).contains c
def bF:List UInt8→Nat→List UInt8
 | l,0=>(l.dropWhile be).takeWhile (fun c=>!be c)
 | l,n+1=>if (l.dropWhile be).takeWhile (fun c=>!be c)=[] then [] else bF ((l.dropWhile be).dropWhile (fun c=>!be c)) n
def dI (s:ByteArray)(n:Nat):ByteArray:=⟨(bF s.data.toList n).toArray⟩
theorem iO (l:List UInt8)(n:Nat):bF l n=match n with
 | 0=>(l.dropWhile be).takeWhile (fun c=>!be c)
 | n+1=>if (l.dropWhile be).takeWhile (fun c=>!be c)=[] then [] else bF ((l.dropWhile be).dropWhile (fun c=>!be c)) n:=by
 cases n<;>simp [bF]
theorem mF (l:List UInt8):(Lib.indexAny l [32,10]=-1∧l.takeWhile (fun c=>!be c)=l)∨∃ k:Nat,Lib.indexAny l [32,10]=k∧k<l.length∧l.takeWhile (fun c=>!be c)=l.take k∧l.dropWhile (fun c=>!be c)=l.drop k:=by
 induction l with
 | nil=>exact .inl ⟨rfl,rfl⟩
 | cons b l ih =>
  by_cases hb:be b=true
  ·refine .inr ⟨0,?_,by simp,by simp [hb],by simp [hb]⟩
   have hb':([32,10]:List UInt8).contains b=true:=hb
   rw [Lib.indexAny,if_pos hb']
   rfl
  ·have hb':¬ ([32,10]:List UInt8).contains b=true:=hb
   rcases ih with ⟨h1,h2⟩ | ⟨k,h1,h2,h3,h4⟩
   ·refine .inl ⟨?_,by simp [hb,h2]⟩
    rw [Lib.indexAny,if_neg hb',h1]
    rfl
   ·refine .inr ⟨k+1,?_,by simp [h2],by simp [hb,h3],by simp [hb,h4]⟩
    rw [Lib.indexAny,if_neg hb',h1,if_neg (by simp<;>omega)]
    simp
theorem dJ (l:List UInt8)(p:UInt8→Bool):(l.dropWhile p).length≤l.length:=by
 induction l with
 | nil=>simp
 | cons b l ih =>
  rw [List.dropWhile_cons]
  split
  ·simp;omega
  ·simp
theorem qP (s:ByteArray)(n:Nat)(w:World)(hs:s.size≤2000)(hn:n≤2000) :
  Calls Tryz.prog 229 #[.string s,.int .i64 n] w fun e w'=>e=.returned (.string (dI s n))∧Below w.heap.size w w':=by
 go_enter Tryz.func229,Tryz.ntmps229
 go_wp2
 go_loopw [0,1] (fun s' n' wr=>∃ (t:ByteArray) (k:Nat),s'=.string t∧n'=.int .i64 k∧t.size≤2000∧k≤2000∧bF t.data.toList k=bF s.data.toList n∧Below w.heap.size w wr) (fun _ n' _=>(intOf n').toNat)
 case atStart=>exact ⟨s,n,rfl,rfl,hs,hn,rfl,Below.refl _ _⟩
 case round =>
  obtain ⟨t,k,rfl,rfl,ht,hk,hw,hB⟩:=hrel
  have HW:=ae hw
  have HB:=ae hB
  have hsz:=hB.size
  clear hw hB
  go_wp2_with fail
  refine (nK t _).mono ?_
  rintro e w1 ⟨rfl,hB1⟩
  have HB1:=ae (HB.out.trans (hB1.mono hsz))
  clear hB1
  obtain ⟨T,hT⟩:∃ T:ByteArray,T=⟨(Lib.trimLeftS t.data.toList [32,10]).toArray⟩:=⟨_,rfl⟩
  rw [← hT]
  have hTl:T.data.toList=t.data.toList.dropWhile be:=by rw [hT];rfl
  have hTs:T.size=T.data.toList.length:=rfl
  have hTz:T.size≤2000:=by
   have h1:=dJ t.data.toList be
   have h2:t.data.toList.length=t.size:=rfl
   rw [hTs,hTl]
   omega
  have hsz1:=HB1.out.size
  have HL:=ae hTl
  clear hT hTl hTs
  go_wp2_with fail
  refine (nJ T _ (by omega)).mono ?_
  rintro e w2 ⟨rfl,hB2⟩
  have HB2:=ae (HB1.out.trans (hB2.mono hsz1))
  clear hB2
  rcases mF T.data.toList with ⟨hz,h3⟩ | ⟨E,hz,hE,h3,h4⟩
  ·rw [hz]
   have H3:=ae h3
   clear hz h3
   by_cases hk0:k=0
   ·subst hk0
    go_wp2
    go_ret
    refine ⟨eG ?_,HB2.out⟩
    unfold dI
    rw [← HW.out,bF,← HL.out,H3.out]
   ·have hkb:((k:Int) == 0)=false:=by simp [hk0]
    obtain ⟨k,rfl⟩:∃ k',k=k'+1:=⟨k - 1,by omega⟩
    by_cases hT0:T.size=0
    ·have hTb:((T.size:Int) == 0)=true:=by simp [hT0]
     go_wp2
     go_ret
     refine ⟨eG ?_,HB2.out⟩
     unfold dI
     rw [← HW.out,bF,← HL.out,H3.out]
     have:T.data.toList=[]:=List.eq_nil_of_length_eq_zero hT0
     rw [if_pos this]
     rfl
    ·have hTb:((T.size:Int) == 0)=false:=by simp [hT0]
     have hTne:¬ T.data.toList=[]:=fun e=>hT0 (by show T.data.toList.length=0;rw [e];rfl)
     go_wp2
     exact ⟨⟨⟨#[]⟩,k,rfl,by go_num,by decide,by omega,by
      rw [← HW.out,bF,← HL.out,H3.out,if_neg hTne]
      congr 1
      have:=List.takeWhile_append_dropWhile (p:=fun c=>!be c) (l:=T.data.toList)
      rw [H3.out] at this
      simpa using this.symm,HB2.out⟩,by first | (simp [intOf];done) | (simp [intOf];omega)⟩
  ·rw [hz]
   have hE':E<T.size:=hE
   have H3:=ae h3
   have H4:=ae h4
   clear hz h3 h4 hE
   have HX:Hid ((T.extract 0 E).data.toList=T.data.toList.take E):=by
    show (T.extract 0 E).data.toList=T.data.toList.take E
    simp
   have HY:Hid ((T.extract E T.size).data.toList=T.data.toList.drop E):=by
    show (T.extract E T.size).data.toList=T.data.toList.drop E
    simp only [ByteArray.data_extract,Array.toList_extract,List.extract_eq_take_drop]
    exact List.take_of_length_le (by rw [List.length_drop];exact Nat.le_refl _)
   by_cases hk0:k=0
   ·subst hk0
    go_wp2
    go_ret
    refine ⟨eG ?_,HB2.out⟩
    unfold dI
    rw [← HW.out,bF,← HL.out,H3.out,← HX.out]
   ·have hkb:((k:Int) == 0)=false:=by simp [hk0]
    obtain ⟨k,rfl⟩:∃ k',k=k'+1:=⟨k - 1,by omega⟩
    by_cases hT0:E=0
    ·subst hT0
     go_wp2
     go_ret
     refine ⟨eG ?_,HB2.out⟩
     unfold dI
     rw [← HW.out,bF,← HL.out,H3.out]
     simp
     rfl
    ·have hTb:((E:Int) == 0)=false:=by simp [hT0]
     have hTne:¬ T.data.toList.take E=[]:=fun e=>by
      have h5:(T.data.toList.take E).length=0:=by rw [e];rfl
      have h6:T.data.toList.length=T.size:=rfl
      rw [List.length_take] at h5
      omega
     go_wp2
     exact ⟨⟨_,k,rfl,by go_num,by simp;omega,by omega,by
      rw [← HW.out,bF,← HL.out,H3.out,if_neg hTne,H4.out,HY.out],HB2.out⟩,by first | (simp [intOf];done) | (simp [intOf];omega)⟩
theorem iP (m:Nat):bF [] m=[]:=by cases m<;>simp [bF]
theorem lJ {c:UInt8}{l:List UInt8}(h:be c=true)(m:Nat):bF (c :: l) m=bF l m:=by
 rw [iO,iO l]
 simp only [List.dropWhile_cons,h,if_true]
theorem kk {u r:List UInt8}(hu:u≠[])(h:∀ c∈u,be c=false)(hr:r=[]∨∃ c l,r=c :: l∧be c=true):(u++r).dropWhile be=u++r∧(u++r).takeWhile (fun c=>!be c)=u∧(u++r).dropWhile (fun c=>!be c)=r:=by
 obtain ⟨c,u',rfl⟩:=List.exists_cons_of_ne_nil hu
 refine ⟨?_,?_,?_⟩
 ·rw [List.cons_append,List.dropWhile_cons,if_neg (by simp [h c (by simp)])]
 ·rw [List.takeWhile_append_of_pos (fun a ha=>by simp [h a ha])]
  rcases hr with rfl | ⟨d,l,rfl,hd⟩
  ·simp
  ·simp [hd]
 ·rw [List.dropWhile_append_of_pos (fun a ha=>by simp [h a ha])]
  rcases hr with rfl | ⟨d,l,rfl,hd⟩
  ·simp
  ·simp [hd]
theorem qQ {u r:List UInt8}(hu:u≠[])(h:∀ c∈u,be c=false)(hr:r=[]∨∃ c l,r=c :: l∧be c=true):bF (u++r) 0=u:=by
 obtain ⟨h1,h2,h3⟩:=kk hu h hr
 rw [bF,h1,h2]
theorem qR {u r:List UInt8}(hu:u≠[])(h:∀ c∈u,be c=false)(hr:r=[]∨∃ c l,r=c :: l∧be c=true)(m:Nat):bF (u++r) (m+1)=bF r m:=by
 obtain ⟨h1,h2,h3⟩:=kk hu h hr
 rw [bF,h1,h2,h3,if_neg hu]
theorem pB (s:ByteArray)(f i:Nat)(hf:f<i)(hi:i≤s.size)(hg:∀ j,(h:j<s.size)→f≤j→j<i→be s[j]=false)(hr:s.data.toList.drop i=[]∨∃ c l,s.data.toList.drop i=c :: l∧be c=true) :
  bF (s.data.toList.drop f) 0=(s.extract f i).data.toList∧∀ m,bF (s.data.toList.drop f) (m+1)=bF (s.data.toList.drop i) m:=by
 have hL:s.data.toList.length=s.size:=rfl
 have e:s.data.toList.drop f=(s.data.toList.drop f).take (i - f)++s.data.toList.drop i:=by
  conv=>lhs;rw [← List.take_append_drop (i - f) (s.data.toList.drop f)]
  rw [List.drop_drop]
  congr 2
  omega
 have hx:(s.extract f i).data.toList=(s.data.toList.drop f).take (i - f):=by
  simp only [ByteArray.data_extract,Array.toList_extract,List.extract_eq_take_drop]
 have hu:(s.data.toList.drop f).take (i - f)≠[]:=by
  intro e
  have h5:((s.data.toList.drop f).take (i - f)).length=0:=by rw [e];rfl
  rw [List.length_take,List.length_drop] at h5
  omega
 have hc:∀ c∈(s.data.toList.drop f).take (i - f),be c=false:=by
  intro c hc
  obtain ⟨j,hj,rfl⟩:=List.mem_iff_getElem.1 hc
  rw [List.length_take,List.length_drop] at hj
  have:=hg (f+j) (by omega) (by omega) (by omega)
  simp only [List.getElem_take,List.getElem_drop,Array.getElem_toList]
  exact this
 refine ⟨?_,fun m=>?_⟩
 ·rw [hx]
  conv=>lhs;rw [e]
  exact qQ hu hc hr
 ·conv=>lhs;rw [e]
  exact qR hu hc hr m
theorem oS (s:ByteArray)(n:Nat)(w:World)(hs:s.size≤2000)(hn:n≤2000) :
    Calls Tryz.prog 275 #[.string s,.int .i64 n] w fun e w'=>e=.returned (.string (dI s n))∧Below w.heap.size w w':=by
  have hL:s.data.toList.length=s.size:=rfl
  have drop_at:∀ i:Nat,(h:i<s.size)→s.data.toList.drop i=s[i] :: s.data.toList.drop (i+1):=fun i h=>List.drop_eq_getElem_cons (by rw [hL];exact h)
  have DROP:=ae drop_at
  have drop_end:∀ i:Nat,s.size≤i→s.data.toList.drop i=[]:=fun i h=>List.drop_eq_nil_of_le (by rw [hL];exact h)
  have DROPE:=ae drop_end
  clear drop_at drop_end
  go_enter Tryz.func275,Tryz.ntmps275
  go_wp2
  go_loopw [1,5,6] (fun n' f' i' wr=>∃ (i m:Nat),i≤s.size+1∧m≤2000∧i'=.int .i64 i∧n'=.int .i64 m∧Below w.heap.size w wr ∧
      ((f'=.int .i64 (-1)∧bF (s.data.toList.drop i) m=bF s.data.toList n) ∨
       ∃ f:Nat,f'=.int .i64 f∧f<i∧i≤s.size∧(∀ j,(h:j<s.size)→f≤j→j<i→be s[j]=false)∧bF (s.data.toList.drop f) m=bF s.data.toList n)) (fun _ _ i' _=>s.size+1 - (intOf i').toNat)
  case atStart=>exact ⟨0,n,by omega,hn,rfl,rfl,Below.refl _ _,.inl ⟨rfl,rfl⟩⟩
  case round =>
    obtain ⟨i,m,hi,hm,rfl,rfl,hB,hc⟩:=hrel
    have HB:=ae hB
    clear hB
    by_cases hle:i≤s.size
    · by_cases he:i=s.size
      · subst he
        have hD:=DROPE.out s.size lr 
        have hD':=DROPE.out (s.size+1) (by omega)
        rcases hc with ⟨rfl,hw⟩ | ⟨f,rfl,hf,_,hg,hw⟩
        · have HW:=ae hw
          rw [hD,iP] at HW
          clear hw hD
          go_wp2
          exact ⟨⟨s.size+1,m,by omega,hm,by go_num,rfl,HB.out,.inl ⟨rfl,by rw [hD',iP];exact HW.out⟩⟩,by first | (simp [intOf];done) | (simp [intOf];omega)⟩
        · obtain ⟨k1,k2⟩:=pB s f s.size hf lr hg (.inl hD)
          have K1:=ae k1
          have K2:=ae k2
          have HW:=ae hw
          clear hg hw k1 k2
          rw [hD] at K2
          clear hD
          by_cases hm0:m=0
          · subst hm0
            rw [K1.out] at HW
            go_wp2
            go_ret
            refine ⟨eG ?_,HB.out⟩
            unfold dI
            rw [← HW.out]
          · have hmb:((m:Int) == 0)=false:=by simp [hm0]
            obtain ⟨m,rfl⟩:∃ m',m=m'+1:=⟨m - 1,by omega⟩
            go_wp2
            exact ⟨⟨s.size+1,m,by omega,by omega,by go_num,by go_num,HB.out,.inl ⟨rfl,by rw [hD',← K2.out];exact HW.out⟩⟩,by first | (simp [intOf];done) | (simp [intOf];omega)⟩
      · have hlt:i<s.size:=by omega
        have heb:((i:Int) == (s.size:Int))=false:=by simp;omega
        have hD:=DROP.out i hlt
        cases hgp:be s[i] with
        | false =>
          have g1:((s[i].toNat:Int) == 32)=false:=by
            have:¬ s[i]=32:=fun e=>by rw [e] at hgp;exact absurd hgp (by decide)
            have h2:¬ s[i].toNat=32:=fun e=>this (UInt8.toNat_inj.1 e)
            simp;omega
          have g2:((s[i].toNat:Int) == 10)=false:=by
            have:¬ s[i]=10:=fun e=>by rw [e] at hgp;exact absurd hgp (by decide)
            have h2:¬ s[i].toNat=10:=fun e=>this (UInt8.toNat_inj.1 e)
            simp;omega
          have HG:=ae hgp
          clear hgp
          rcases hc with ⟨rfl,hw⟩ | ⟨f,rfl,hf,_,hg,hw⟩
          · have HW:=ae hw
            clear hw hD
            go_wp2
            exact ⟨⟨i+1,m,by omega,hm,by go_num,rfl,HB.out,.inr ⟨i,rfl,by omega,by omega,fun j h h1 h2=>by
              obtain rfl:j=i:=by omega
              exact HG.out,HW.out⟩⟩,by first | (simp [intOf];done) | (simp [intOf];omega)⟩
          · have HW:=ae hw
            have HGG:=ae hg
            clear hw hD hg
            go_wp2
            exact ⟨⟨i+1,m,by omega,hm,by go_num,rfl,HB.out,.inr ⟨f,rfl,by omega,by omega,fun j h h1 h2=>by
              by_cases e:j=i
              · subst e;exact HG.out
              · exact HGG.out j h h1 (by omega),HW.out⟩⟩,by first | (simp [intOf];done) | (simp [intOf];omega)⟩
        | true =>
          have g3:((s[i].toNat:Int) == 32)=true∨(((s[i].toNat:Int) == 32)=false∧((s[i].toNat:Int) == 10)=true):=by
            have:s[i]=32∨s[i]=10:=by simpa [be] using hgp
            rcases this with e | e
            · left;rw [e];rfl
            · right;rw [e];exact ⟨rfl,rfl⟩
          have HG:=ae hgp
          clear hgp
          rcases g3 with g1 | ⟨g1,g2⟩
          all_goals
            rcases hc with ⟨rfl,hw⟩ | ⟨f,rfl,hf,_,hg,hw⟩
            · have HW:=ae hw
              rw [hD,lJ HG.out] at HW
              clear hw hD
              go_wp2
              exact ⟨⟨i+1,m,by omega,hm,by go_num,rfl,HB.out,.inl ⟨rfl,HW.out⟩⟩,by first | (simp [intOf];done) | (simp [intOf];omega)⟩
            · obtain ⟨k1,k2⟩:=pB s f i hf (by omega) hg (.inr ⟨_,_,hD,HG.out⟩)
              have K1:=ae k1
              have K2:=ae k2
              have HW:=ae hw
              rw [hD] at K2
              clear hg hw k1 k2 hD
              by_cases hm0:m=0
              · subst hm0
                rw [K1.out] at HW
                go_wp2
                go_ret
                refine ⟨eG ?_,HB.out⟩
                unfold dI
                rw [← HW.out]
              · have hmb:((m:Int) == 0)=false:=by simp [hm0]
                obtain ⟨m,rfl⟩:∃ m',m=m'+1:=⟨m - 1,by omega⟩
                rw [K2.out,lJ HG.out] at HW
                go_wp2
                exact ⟨⟨i+1,m,by omega,by omega,by go_num,by go_num,HB.out,.inl ⟨rfl,HW.out⟩⟩,by first | (simp [intOf];done) | (simp [intOf];omega)⟩
    · obtain rfl:i=s.size+1:=by omega
      rcases hc with ⟨rfl,hw⟩ | ⟨f,rfl,hf,hz,hg,hw⟩
      · have HW:=ae hw
        rw [DROPE.out _ (by omega),iP] at HW
        clear hw
        go_wp2
        go_ret
        refine ⟨eG ?_,HB.out⟩
        unfold dI
        rw [← HW.out]
      · omega
end Go.Proofs.YtkophfgkcijjkaaGreatDoor.Vp
