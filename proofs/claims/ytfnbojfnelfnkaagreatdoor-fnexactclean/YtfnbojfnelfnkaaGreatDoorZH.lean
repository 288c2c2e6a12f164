import Derived.Test.YtfnbojfnelfnkaaGreatDoorZD
import Derived.Test.YtfnbojfnelfnkaaGreatDoorZG
import Derived.Test.YtfnbojfnelfnkaaGreatDoorZE
set_option maxRecDepth 100000
set_option maxHeartbeats 4000000
namespace Go.Proofs.YtfnbojfnelfnkaaGreatDoor.Vp
open Go.RowKit
def markSource (k0:Nat)(j:Nat):Value:=if j % 2=0 then .string (mkT ((k0:Int)+j)) else .string (mkT ((k0:Int)+j))
theorem markSource_0 {k0 k q:Nat}(h:q=k0+k*2):markSource k0 (k*2)=.string (mkT ((q:Int))):=by
 have e:(k0:Int)+((k*2:Nat):Int)=(q:Int):=by omega
 unfold markSource
 rw [if_pos (by omega),e]
theorem markSource_1 {k0 k q:Nat}(h:q=k0+k*2):markSource k0 (k*2+1)=.string (mkT ((q:Int)+1)):=by
 have e:(k0:Int)+((k*2+1:Nat):Int)=(q:Int)+1:=by omega
 unfold markSource
 rw [if_neg (by omega),e]
theorem markSourceS_row (b off n cap k0:Nat)(F:Nat→Value)(w:World)(hn:(n:Int)≤1048576)(h1:1≤(k0:Int))(h2:(k0:Int)≤1152921504606846976)(hC:Cells w b off (n*2) F) :
  Calls Tryz.prog 43 #[.slice (some ⟨b,off,none⟩) n cap,.int .i64 k0] w fun e w'=>e=.returned (.int .i64 ((k0+n*2:Nat):Int))∧Cells w' b off (n*2) (markSource k0)∧Within b (b+1) w w':=by
 have HC:=hide hC
 clear hC
 go_enter Tryz.func43,Tryz.ntmps43
 go_wp2
 go_loopw [1,5] (fun v i wr=>∃ (k q:Nat) (F:Nat→Value),k≤n∧Hid (q=k0+k*2)∧i=.int .i64 k∧v=.int .i64 q∧Hid (Cells wr b off (n*2) F)∧Hid (∀ j,j<k*2→F j=markSource k0 j)∧Hid (Within b (b+1) w wr)) (fun _ i _=>n - (intOf i).toNat)
 case atStart=>exact ⟨0,k0,F,by omega,by show k0=_;omega,rfl,rfl,HC.out,fun j hj=>by omega,Within.refl _ _ _⟩
 case round =>
  obtain ⟨k,q,F,hk,HQ,rfl,rfl,HC0,HM,HW0⟩:=hrel
  have hq1:1≤(q:Int):=by have:=HQ.out;omega
  have hq2:(q:Int)≤1152921504610000000:=by have:=HQ.out;omega
  by_cases hlt:k<n
  ·have hkk:k*2+2≤n*2:=by omega
   obtain ⟨c0,z0⟩:=HC0.out.at (off+k*2) (k*2) (by omega) (by omega)
   obtain ⟨c1,z1⟩:=HC0.out.at (off+k*2+1) (k*2+1) (by omega) (by omega)
   go_wp2_with fail
   refine (markText_int ((q:Int)) _ (by omega) (by omega)).mono ?_
   rintro e w1 ⟨rfl,hB⟩
   have HC1:=hide (HC0.out.below hB HC0.out.1)
   have HW1:=hide (HW0.out.below hB lr)
   clear hB c0 z0 c1 z1
   obtain ⟨c0,z0⟩:=HC1.out.at (off+k*2) (k*2) (by omega) (by omega)
   obtain ⟨c1,z1⟩:=HC1.out.at (off+k*2+1) (k*2+1) (by omega) (by omega)
   have HS0:=hide (HC1.out.setAt (off+k*2) (k*2) (by omega) (by omega) (.string (mkT ((q:Int)))))
   have HX0:=hide (HW1.out.setCell (p:=⟨b,off+k*2,none⟩) lr (Nat.lt_succ_self _) (.string (mkT ((q:Int)))))
   go_wp2_with fail
   clear c0 z0 c1 z1
   generalize (w1.setCell ⟨b,off+k*2,none⟩ (.string (mkT ((q:Int)))))=v2 at HS0 HX0 ⊢
   refine (markText_int ((q:Int)+1) _ (by omega) (by omega)).mono ?_
   rintro e w2 ⟨rfl,hB⟩
   have HC2:=hide (HS0.out.below hB HS0.out.1)
   have HW2:=hide (HX0.out.below hB lr)
   clear hB
   obtain ⟨c1,z1⟩:=HC2.out.at (off+k*2+1) (k*2+1) (by omega) (by omega)
   have HS1:=hide (HC2.out.setAt (off+k*2+1) (k*2+1) (by omega) (by omega) (.string (mkT ((q:Int)+1))))
   have HX1:=hide (HW2.out.setCell (p:=⟨b,off+k*2+1,none⟩) lr (Nat.lt_succ_self _) (.string (mkT ((q:Int)+1))))
   go_wp2
   refine ⟨⟨k+1,q+2,_,by omega,by show q+2=k0+(k+1)*2;have:=HQ.out;omega,by go_num,by go_num,HS1.out,?_,HX1.out⟩,by simp [intOf];omega⟩
   intro j hj
   rcases (show j<k*2∨j=k*2∨j=k*2+1 by omega) with h | rfl | rfl
   ·rw [if_neg (by omega),if_neg (by omega),HM.out j h]
   ·rw [if_neg (by omega),if_pos rfl,markSource_0 HQ.out]
   ·rw [if_pos rfl,markSource_1 HQ.out]
  ·have e:k=n:=by omega
   subst e
   have hv:(q:Int)=((k0+k*2:Nat):Int):=by rw [HQ.out]
   have HV:=hide hv
   clear hv
   go_wp2
   go_ret
   exact ⟨by show Ending.returned (.int .i64 (q:Int))=_;rw [HV.out],HC0.out.congr HM.out,HW0.out⟩
theorem markSourceS_nil (a:Option Addr)(cap k0:Nat)(w:World):Calls Tryz.prog 43 #[.slice a 0 cap,.int .i64 k0] w fun e w'=>e=.returned (.int .i64 (k0:Int))∧w'=w:=by
 go_enter Tryz.func43,Tryz.ntmps43
 go_wp2
 go_loop [1,5] (fun v i=>v=.int .i64 k0∧i=.int .i64 0) (fun _ _=>0)
 case atStart=>exact ⟨rfl,rfl⟩
 case round =>
  obtain ⟨rfl,rfl⟩:=hrel
  go_wp2
  go_ret
  exact ⟨rfl,rfl⟩
structure SCells (w:World)(a0:Option Addr)(n0:Nat)(a1:Option Addr)(n1:Nat)(P:Nat→Prop):Prop where
 src:n0=0∨∃ S,a0=some ⟨S,0,none⟩∧P S∧∃ F,Cells w S 0 (n0*2) F
 tgt:n1=0∨∃ T B m,a1=some ⟨T,0,none⟩∧TCells w T 0 n1 B m∧P T∧(∀ i,i<n1→P (B i))∧(∀ i,i<n1→m i≤1048576)∧∀ S,a0=some ⟨S,0,none⟩→n0≠0→T≠S∧∀ i,i<n1→B i≠S
structure SMarked (w:World)(a0:Option Addr)(n0:Nat)(a1:Option Addr)(n1 r:Nat):Prop where
 src:n0=0∨∃ S,a0=some ⟨S,0,none⟩∧Cells w S 0 (n0*2) (markSource 1)
 tgt:(n1=0∧r=1+n0*2)∨∃ T B m,a1=some ⟨T,0,none⟩∧TMarked w T 0 n1 B m (1+n0*2)∧(∀ i,i<n1→m i≤1048576)∧r=kAt m (1+n0*2) n1
theorem TCells.within {w w':World}{T off n lo hi:Nat}{B m:Nat→Nat}(h:TCells w T off n B m)(hw:Within lo hi w w')(hT:T<lo∨hi≤T)(hB:∀ i,i<n→B i<lo∨hi≤B i):TCells w' T off n B m:=by
 obtain ⟨⟨F,hF,hs⟩,ha,h1,h2⟩:=h
 refine ⟨⟨F,hF.within hw hT,hs⟩,fun i hi=>?_,h1,h2⟩
 obtain ⟨G,hG⟩:=ha i hi
 exact ⟨G,hG.within hw (hB i hi)⟩
theorem TCells.below {w w':World}{T off n Z:Nat}{B m:Nat→Nat}(h:TCells w T off n B m)(hb:Below Z w w')(hZ:w.heap.size≤Z):TCells w' T off n B m:=by
 obtain ⟨⟨F,hF,hs⟩,ha,h1,h2⟩:=h
 refine ⟨⟨F,hF.below hb (Nat.lt_of_lt_of_le hF.1 hZ),hs⟩,fun i hi=>?_,h1,h2⟩
 obtain ⟨G,hG⟩:=ha i hi
 exact ⟨G,hG.below hb (Nat.lt_of_lt_of_le hG.1 hZ)⟩
theorem TMarked.lt {w:World}{T off n k0:Nat}{B m:Nat→Nat}(h:TMarked w T off n B m k0):T<w.heap.size:=by
 obtain ⟨⟨F,hF,_⟩,_⟩:=h
 exact hF.1
theorem SMarked.below {w w':World}{a0 a1:Option Addr}{n0 n1 r Z:Nat}(h:SMarked w a0 n0 a1 n1 r)(hb:Below Z w w')(hZ:w.heap.size≤Z):SMarked w' a0 n0 a1 n1 r:=by
 obtain ⟨h0,h1⟩:=h
 refine ⟨?_,?_⟩
 ·rcases h0 with h | ⟨S,e,hS⟩
  ·exact .inl h
  ·exact .inr ⟨S,e,hS.below hb (Nat.lt_of_lt_of_le hS.1 hZ)⟩
 ·rcases h1 with h | ⟨T,B,m,e,hT,hm,hr⟩
  ·exact .inl h
  ·exact .inr ⟨T,B,m,e,hT.below hb hZ,hm,hr⟩
theorem markSpace_00 (P:Nat→Prop)(a0:Option Addr)(a1:Option Addr)(c0 c1:Nat)(w:World) :
  Calls Tryz.prog 12 #[.agg #[.slice a0 0 c0,.slice a1 0 c1],.int .i64 1] w fun e w'=>∃ r:Nat,e=.returned (.int .i64 r)∧SMarked w' a0 0 a1 0 r∧Touch P w w':=by
 have A0:=hide ((Below.refl w.heap.size w).alloc lr (.cells #[.slice a0 0 c0,.slice a1 0 c1] 34))
 have k1:(w.alloc (.cells #[.slice a0 0 c0,.slice a1 0 c1] 34)).cell? ⟨w.heap.size,1,none⟩=some (.slice a1 0 c1):=by simp
 go_enter Tryz.func12,Tryz.ntmps12
 go_wp2_with fail
 refine (markSourceS_nil a0 c0 1 _).mono ?_
 rintro e w1 ⟨rfl,rfl⟩
 have W1:=hide (Touch.of_below (P:=P) A0.out lr)
 go_wp2_with fail
 refine (markTargetS_nil a1 c1 1 _).mono ?_
 rintro e w2 ⟨rfl,rfl⟩
 have W2:=W1
 go_wp2
 go_ret
 exact ⟨_,rfl,⟨.inl rfl,.inl ⟨rfl,rfl⟩⟩,W2.out⟩
theorem markSpace_01 (P:Nat→Prop)(a0:Option Addr)(n1:Nat)(c0 c1:Nat)(w:World)(T:Nat)(B m:Nat→Nat)(hT:TCells w T 0 n1 B m)(hTl:P T)(hB:∀ i,i<n1→P (B i))(hm:∀ i,i<n1→m i≤1048576)(hn1:(n1:Int)≤1048576) :
  Calls Tryz.prog 12 #[.agg #[.slice a0 0 c0,.slice (some ⟨T,0,none⟩) n1 c1],.int .i64 1] w fun e w'=>∃ r:Nat,e=.returned (.int .i64 r)∧SMarked w' a0 0 (some ⟨T,0,none⟩) n1 r∧Touch P w w':=by
 have A0:=hide ((Below.refl w.heap.size w).alloc lr (.cells #[.slice a0 0 c0,.slice (some ⟨T,0,none⟩) n1 c1] 34))
 have k1:(w.alloc (.cells #[.slice a0 0 c0,.slice (some ⟨T,0,none⟩) n1 c1] 34)).cell? ⟨w.heap.size,1,none⟩=some (.slice (some ⟨T,0,none⟩) n1 c1):=by simp
 have HT:=hide (hT.below A0.out lr)
 have HTl:=hide hTl
 have HB:=hide hB
 have HM:=hide hm
 clear hT hTl hB hm
 go_enter Tryz.func12,Tryz.ntmps12
 go_wp2_with fail
 refine (markSourceS_nil a0 c0 1 _).mono ?_
 rintro e w1 ⟨rfl,rfl⟩
 have W1:=hide (Touch.of_below (P:=P) A0.out lr)
 have T1:=HT
 go_wp2_with fail
 refine (markTargetS_row T 0 n1 c1 1 B m _ hn1 HM.out (by omega) (by omega) T1.out).mono ?_
 rintro e w2 ⟨rfl,hM2,hW2⟩
 have M2:=hide hM2
 have W2:=hide (W1.out.trans (hW2.mono (Q:=P) (fun x hx=>by rcases hx with rfl | ⟨i,hi,rfl⟩;exact HTl.out;exact HB.out i hi)))
 clear hM2 hW2
 go_wp2
 go_ret
 exact ⟨_,rfl,⟨.inl rfl,.inr ⟨T,B,m,rfl,M2.out,HM.out,rfl⟩⟩,W2.out⟩
theorem markSpace_10 (P:Nat→Prop)(a1:Option Addr)(n0:Nat)(c0 c1:Nat)(w:World)(S:Nat)(F:Nat→Value)(hS:P S)(hF:Cells w S 0 (n0*2) F)(hn0:(n0:Int)≤1048576) :
  Calls Tryz.prog 12 #[.agg #[.slice (some ⟨S,0,none⟩) n0 c0,.slice a1 0 c1],.int .i64 1] w fun e w'=>∃ r:Nat,e=.returned (.int .i64 r)∧SMarked w' (some ⟨S,0,none⟩) n0 a1 0 r∧Touch P w w':=by
 have A0:=hide ((Below.refl w.heap.size w).alloc lr (.cells #[.slice (some ⟨S,0,none⟩) n0 c0,.slice a1 0 c1] 34))
 have k1:(w.alloc (.cells #[.slice (some ⟨S,0,none⟩) n0 c0,.slice a1 0 c1] 34)).cell? ⟨w.heap.size,1,none⟩=some (.slice a1 0 c1):=by simp
 have HF:=hide (hF.below A0.out hF.1)
 have HSl:=hide hS
 have hSw:=hF.1
 clear hF hS
 go_enter Tryz.func12,Tryz.ntmps12
 go_wp2_with fail
 refine (markSourceS_row S 0 n0 c0 1 F _ hn0 (by omega) (by omega) HF.out).mono ?_
 rintro e w1 ⟨rfl,hM1,hW1⟩
 have M1:=hide hM1
 have W1:=hide ((Touch.of_below (P:=P) A0.out lr).trans (Touch.of_within hW1 HSl.out))
 have k2:w1.cell? ⟨w.heap.size,1,none⟩=some (.slice a1 0 c1):=(World.cell?_of_block (a:=⟨w.heap.size,1,none⟩) (hW1.block w.heap.size (by simp) (by omega))).trans k1
 clear hM1 hW1 k1
 go_wp2_with fail
 refine (markTargetS_nil a1 c1 (1+n0*2) _).mono ?_
 rintro e w2 ⟨rfl,rfl⟩
 have W2:=W1
 have M1':=M1
 go_wp2
 go_ret
 exact ⟨_,rfl,⟨.inr ⟨S,rfl,M1'.out⟩,.inl ⟨rfl,rfl⟩⟩,W2.out⟩
theorem markSpace_11 (P:Nat→Prop)(n0:Nat)(n1:Nat)(c0 c1:Nat)(w:World)(S:Nat)(F:Nat→Value)(hS:P S)(hF:Cells w S 0 (n0*2) F)(hn0:(n0:Int)≤1048576)(T:Nat)(B m:Nat→Nat)(hT:TCells w T 0 n1 B m)(hTl:P T)(hB:∀ i,i<n1→P (B i))(hm:∀ i,i<n1→m i≤1048576)(hn1:(n1:Int)≤1048576)(hap:T≠S∧∀ i,i<n1→B i≠S) :
  Calls Tryz.prog 12 #[.agg #[.slice (some ⟨S,0,none⟩) n0 c0,.slice (some ⟨T,0,none⟩) n1 c1],.int .i64 1] w fun e w'=>∃ r:Nat,e=.returned (.int .i64 r)∧SMarked w' (some ⟨S,0,none⟩) n0 (some ⟨T,0,none⟩) n1 r∧Touch P w w':=by
 have A0:=hide ((Below.refl w.heap.size w).alloc lr (.cells #[.slice (some ⟨S,0,none⟩) n0 c0,.slice (some ⟨T,0,none⟩) n1 c1] 34))
 have k1:(w.alloc (.cells #[.slice (some ⟨S,0,none⟩) n0 c0,.slice (some ⟨T,0,none⟩) n1 c1] 34)).cell? ⟨w.heap.size,1,none⟩=some (.slice (some ⟨T,0,none⟩) n1 c1):=by simp
 have HF:=hide (hF.below A0.out hF.1)
 have HSl:=hide hS
 have hSw:=hF.1
 clear hF hS
 have HT:=hide (hT.below A0.out lr)
 have HTl:=hide hTl
 have HB:=hide hB
 have HM:=hide hm
 clear hT hTl hB hm
 have HA:=hide hap
 clear hap
 go_enter Tryz.func12,Tryz.ntmps12
 go_wp2_with fail
 refine (markSourceS_row S 0 n0 c0 1 F _ hn0 (by omega) (by omega) HF.out).mono ?_
 rintro e w1 ⟨rfl,hM1,hW1⟩
 have M1:=hide hM1
 have W1:=hide ((Touch.of_below (P:=P) A0.out lr).trans (Touch.of_within hW1 HSl.out))
 have k2:w1.cell? ⟨w.heap.size,1,none⟩=some (.slice (some ⟨T,0,none⟩) n1 c1):=(World.cell?_of_block (a:=⟨w.heap.size,1,none⟩) (hW1.block w.heap.size (by simp) (by omega))).trans k1
 have T1:=hide (HT.out.within hW1 (by have:=HA.out.1;omega) (fun i hi=>by have:=HA.out.2 i hi;omega))
 clear hM1 hW1 k1
 go_wp2_with fail
 refine (markTargetS_row T 0 n1 c1 (1+n0*2) B m _ hn1 HM.out (by omega) (by omega) T1.out).mono ?_
 rintro e w2 ⟨rfl,hM2,hW2⟩
 have M2:=hide hM2
 have W2:=hide (W1.out.trans (hW2.mono (Q:=P) (fun x hx=>by rcases hx with rfl | ⟨i,hi,rfl⟩;exact HTl.out;exact HB.out i hi)))
 have M1':=hide (M1.out.touch hW2 (fun hx=>by rcases hx with hx | ⟨i,hi,hx⟩;exact HA.out.1 hx.symm;exact HA.out.2 i hi hx.symm))
 clear hM2 hW2
 go_wp2
 go_ret
 exact ⟨_,rfl,⟨.inr ⟨S,rfl,M1'.out⟩,.inr ⟨T,B,m,rfl,M2.out,HM.out,rfl⟩⟩,W2.out⟩
theorem markSpace_any (P:Nat→Prop)(a0 a1:Option Addr)(n0 c0 n1 c1:Nat)(w:World)(hn0:(n0:Int)≤1048576)(hn1:(n1:Int)≤1048576)(h:SCells w a0 n0 a1 n1 P) :
  Calls Tryz.prog 12 #[.agg #[.slice a0 n0 c0,.slice a1 n1 c1],.int .i64 1] w fun e w'=>∃ r:Nat,e=.returned (.int .i64 r)∧SMarked w' a0 n0 a1 n1 r∧Touch P w w':=by
 obtain ⟨h0,h1⟩:=h
 rcases h0 with rfl | ⟨S,rfl,hS,F,hF⟩
 ·rcases h1 with rfl | ⟨T,B,m,rfl,hT,hTl,hB,hm,_⟩
  ·exact markSpace_00 P a0 a1 c0 c1 w
  ·exact markSpace_01 P a0 n1 c0 c1 w T B m hT hTl hB hm hn1
 ·by_cases hz:n0=0
  ·subst hz
   rcases h1 with rfl | ⟨T,B,m,rfl,hT,hTl,hB,hm,_⟩
   ·exact markSpace_00 P _ a1 c0 c1 w
   ·exact markSpace_01 P _ n1 c0 c1 w T B m hT hTl hB hm hn1
  ·rcases h1 with rfl | ⟨T,B,m,rfl,hT,hTl,hB,hm,hap⟩
   ·exact markSpace_10 P a1 n0 c0 c1 w S F hS hF hn0
   ·exact markSpace_11 P n0 n1 c0 c1 w S F hS hF hn0 T B m hT hTl hB hm hn1 (hap S rfl hz)
structure Two (w:World)(b:Nat)(v0 v1:Value):Prop where
 lt:b<w.heap.size
 c0:w.cell? ⟨b,0,none⟩=some v0
 c1:w.cell? ⟨b,1,none⟩=some v1
theorem Two.block {w w':World}{b:Nat}{v0 v1:Value}(h:Two w b v0 v1)(hz:w.heap.size≤w'.heap.size)(hb:w'.heap[b]?=w.heap[b]?):Two w' b v0 v1 :=
 ⟨Nat.lt_of_lt_of_le h.lt hz,(World.cell?_of_block (a:=⟨b,0,none⟩) hb).trans h.c0,(World.cell?_of_block (a:=⟨b,1,none⟩) hb).trans h.c1⟩
theorem Two.below {w w':World}{b:Nat}{v0 v1:Value}(h:Two w b v0 v1)(hb:Below w.heap.size w w'):Two w' b v0 v1:=h.block hb.size (hb.block b h.lt)
theorem Two.touch {w w':World}{b:Nat}{v0 v1:Value}{P:Nat→Prop}(h:Two w b v0 v1)(ht:Touch P w w')(hb:¬ P b):Two w' b v0 v1:=h.block ht.size (ht.block b h.lt hb)
theorem two_box (w:World)(v0 v1:Value)(t:TypeId):Two (w.alloc (.cells #[v0,v1] t)) w.heap.size v0 v1:=⟨by simp,by simp,by simp⟩
theorem scells_copy {w:World}{g0 g1 n0 n1 N lo:Nat}{f0:Nat→Source}{f1:Nat→Target}(h0:OwnSource w g0 n0 n0 f0)(h1:OwnTarget2 w g1 n1 n1 N f1)(hlo:lo≤g0)(hlt:g0<g1)(hf:∀ i,i<n1→FitsTarget (f1 i)):SCells w (some ⟨g0,0,none⟩) n0 (some ⟨g1,0,none⟩) n1 (fun k=>lo≤k∧k<w.heap.size):=by
 have hl1:=h1.lt
 obtain ⟨F0,hF0⟩:=h0.cells
 refine ⟨.inr ⟨g0,rfl,⟨hlo,h0.lt⟩,F0,hF0⟩,?_⟩
 obtain ⟨F,G,hr,hup,hlt2,hF⟩:=h1
 refine .inr ⟨g1,G,fun i=>(f1 i).actN,rfl,⟨⟨F,cells_of_row hr,fun i hi=>⟨_,(hF i hi).2.1⟩⟩,fun i hi=>(hF i hi).2.2.1.cells,fun i hi=>?_,fun i j hi hj hij=>?_⟩,⟨by omega,hl1⟩,fun i hi=>?_,fun i hi=>hf i hi,fun S hS _=>?_⟩
 ·have:=(hF i hi).2.2.2
  omega
 ·rcases Nat.lt_or_gt_of_ne hij with h | h
  ·have:=hup i j h hj
   omega
  ·have:=hup j i h hi
   omega
 ·have h1:=(hF i hi).2.2.2
  have h2:=(hF i hi).2.2.1.lt
  exact ⟨by omega,h2⟩
 ·simp at hS
  subst hS
  refine ⟨by omega,fun i hi=>?_⟩
  have:=(hF i hi).2.2.2
  omega
theorem SCells.below {w w':World}{a0 a1:Option Addr}{n0 n1:Nat}{P:Nat→Prop}(h:SCells w a0 n0 a1 n1 P)(hb:Below w.heap.size w w'):SCells w' a0 n0 a1 n1 P:=by
 obtain ⟨h0,h1⟩:=h
 refine ⟨?_,?_⟩
 ·rcases h0 with h | ⟨S,e,hp,F,hF⟩
  ·exact .inl h
  ·exact .inr ⟨S,e,hp,F,hF.below hb hF.1⟩
 ·rcases h1 with h | ⟨T,B,m,e,hT,r⟩
  ·exact .inl h
  ·exact .inr ⟨T,B,m,e,hT.below hb lr,r⟩
def markStr (k0:Nat)(j:Nat):Value:=.string (mkT ((k0:Int)+j))
theorem markStr_at {k0 k q:Nat}(h:q=k0+k):markStr k0 k=.string (mkT (q:Int)):=by
 have e:(k0:Int)+(k:Int)=(q:Int):=by omega
 unfold markStr
 rw [e]
theorem markStringS_row (b off n cap k0:Nat)(F:Nat→Value)(w:World)(hn:(n:Int)≤1048576)(h1:1≤(k0:Int))(h2:(k0:Int)≤1152921504606846976)(hC:Cells w b off n F) :
  Calls Tryz.prog 45 #[.slice (some ⟨b,off,none⟩) n cap,.int .i64 k0] w fun e w'=>e=.returned (.int .i64 ((k0+n:Nat):Int))∧Cells w' b off n (markStr k0)∧Within b (b+1) w w':=by
 have HC:=hide hC
 clear hC
 go_enter Tryz.func45,Tryz.ntmps45
 go_wp2
 go_loopw [1,5] (fun v i wr=>∃ (k q:Nat) (F:Nat→Value),k≤n∧Hid (q=k0+k)∧i=.int .i64 k∧v=.int .i64 q∧Hid (Cells wr b off n F)∧Hid (∀ j,j<k→F j=markStr k0 j)∧Hid (Within b (b+1) w wr)) (fun _ i _=>n - (intOf i).toNat)
 case atStart=>exact ⟨0,k0,F,by omega,by show k0=_;omega,rfl,rfl,HC.out,fun j hj=>by omega,Within.refl _ _ _⟩
 case round =>
  obtain ⟨k,q,F,hk,HQ,rfl,rfl,HC0,HM,HW0⟩:=hrel
  have hq1:1≤(q:Int):=by have:=HQ.out;omega
  have hq2:(q:Int)≤1152921504610000000:=by have:=HQ.out;omega
  by_cases hlt:k<n
  ·obtain ⟨c0,z0⟩:=HC0.out.at (off+k) k (by omega) (by omega)
   go_wp2_with fail
   refine (markText_int (q:Int) _ (by omega) (by omega)).mono ?_
   rintro e w1 ⟨rfl,hB⟩
   have HC1:=hide (HC0.out.below hB HC0.out.1)
   have HW1:=hide (HW0.out.below hB lr)
   clear hB c0 z0
   obtain ⟨c1,z1⟩:=HC1.out.at (off+k) k (by omega) (by omega)
   have HS1:=hide (HC1.out.setAt (off+k) k (by omega) (by omega) (.string (mkT (q:Int))))
   have HX1:=hide (HW1.out.setCell (p:=⟨b,off+k,none⟩) lr (Nat.lt_succ_self _) (.string (mkT (q:Int))))
   go_wp2
   refine ⟨⟨k+1,q+1,_,by omega,by show q+1=k0+(k+1);have:=HQ.out;omega,by go_num,by go_num,HS1.out,?_,HX1.out⟩,by simp [intOf];omega⟩
   intro j hj
   rcases (show j<k∨j=k by omega) with h | rfl
   ·rw [if_neg (by omega),HM.out j h]
   ·rw [if_pos rfl,markStr_at HQ.out]
  ·have e:k=n:=by omega
   subst e
   have hv:(q:Int)=((k0+k:Nat):Int):=by rw [HQ.out]
   have HV:=hide hv
   clear hv
   go_wp2
   go_ret
   exact ⟨by show Ending.returned (.int .i64 (q:Int))=_;rw [HV.out],HC0.out.congr HM.out,HW0.out⟩
theorem markStringS_nil (a:Option Addr)(cap k0:Nat)(w:World):Calls Tryz.prog 45 #[.slice a 0 cap,.int .i64 k0] w fun e w'=>e=.returned (.int .i64 (k0:Int))∧w'=w:=by
 go_enter Tryz.func45,Tryz.ntmps45
 go_wp2
 go_loop [1,5] (fun v i=>v=.int .i64 k0∧i=.int .i64 0) (fun _ _=>0)
 case atStart=>exact ⟨rfl,rfl⟩
 case round =>
  obtain ⟨rfl,rfl⟩:=hrel
  go_wp2
  go_ret
  exact ⟨rfl,rfl⟩
theorem heldStringS_nil (a:Option Addr)(cap k0:Nat)(w:World):Calls Tryz.prog 46 #[.slice a 0 cap,.int .i64 k0] w fun e w'=>e=.returned (.int .i64 (k0:Int))∧w'=w:=by
 go_enter Tryz.func46,Tryz.ntmps46
 go_wp2
 go_loop [1,5] (fun v i=>v=.int .i64 k0∧i=.int .i64 0) (fun _ _=>0)
 case atStart=>exact ⟨rfl,rfl⟩
 case round =>
  obtain ⟨rfl,rfl⟩:=hrel
  go_wp2
  go_ret
  exact ⟨rfl,rfl⟩
theorem heldStringS_row (b off n cap k0:Nat)(w:World)(hn:(n:Int)≤1048576)(h1:1≤(k0:Int))(h2:(k0:Int)≤1152921504606846976)(hC:Cells w b off n (markStr k0)) :
  Calls Tryz.prog 46 #[.slice (some ⟨b,off,none⟩) n cap,.int .i64 k0] w fun e w'=>e=.returned (.int .i64 ((k0+n:Nat):Int))∧Below w.heap.size w w':=by
 have HC:=hide hC
 have hb:b<w.heap.size:=hC.1
 clear hC
 go_enter Tryz.func46,Tryz.ntmps46
 go_wp2
 go_loopw [1,5] (fun v i wr=>∃ k q:Nat,k≤n∧Hid (q=k0+k)∧i=.int .i64 k∧v=.int .i64 q∧Hid (Below w.heap.size w wr)) (fun _ i _=>n - (intOf i).toNat)
 case atStart=>exact ⟨0,k0,by omega,by show k0=_;omega,rfl,rfl,Below.refl _ _⟩
 case round =>
  obtain ⟨k,q,hk,HQ,rfl,rfl,HB0⟩:=hrel
  have hq1:1≤(q:Int):=by have:=HQ.out;omega
  have hq2:(q:Int)≤1152921504610000000:=by have:=HQ.out;omega
  have hb0:b<wr.heap.size:=Nat.lt_of_lt_of_le hb HB0.out.size
  have H0:=hide (HC.out.below HB0.out hb)
  by_cases hlt:k<n
  ·have c0:wr.cell? ⟨b,off+k,none⟩=some (.string (mkT (q:Int))):=by have:=(H0.out.at (off+k) k (by omega) (by omega)).1;rw [markStr_at HQ.out] at this;exact this
   go_wp2_with fail
   go_region_with (go_at_call 99;refine (markText_int (q:Int) _ (by omega) (by omega)).mono ?_;rintro e w1 ⟨rfl,hB⟩;have D1:Hid (Below wr.heap.size wr w1):=⟨hB.os,hB.tape,hB.output,hB.size,hB.block⟩;have HB1:=hide (HB0.out.trans (D1.out.mono HB0.out.size));have H1:=hide (H0.out.below D1.out hb0);have hb1:b<w1.heap.size:=Nat.lt_of_lt_of_le hb0 D1.out.size;have c1:w1.cell? ⟨b,off+k,none⟩=some (.string (mkT (q:Int))):=(D1.out.cell (p:=⟨b,off+k,none⟩) hb0).trans c0;clear hB)
   all_goals
    go_wp2
    exact ⟨⟨k+1,q+1,by omega,by show q+1=k0+(k+1);have:=HQ.out;omega,by go_num,by go_num,HB1.out⟩,by simp [intOf];omega⟩
  ·have e:k=n:=by omega
   subst e
   have hv:(q:Int)=((k0+k:Nat):Int):=by rw [HQ.out]
   have HV:=hide hv
   clear hv
   go_wp2
   go_ret
   exact ⟨by show Ending.returned (.int .i64 (q:Int))=_;rw [HV.out],HB0.out⟩
end Go.Proofs.YtfnbojfnelfnkaaGreatDoor.Vp
