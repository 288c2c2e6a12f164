import Derived.Test.YtfnbojfnelfnkaaGreatDoorZH
import Derived.Test.YtfnbojfnelfnkaaGreatDoorZE
import Derived.Test.YtfnbojfnelfnkaaGreatDoorZF
set_option maxRecDepth 100000
set_option maxHeartbeats 8000000
namespace Go.Proofs.YtfnbojfnelfnkaaGreatDoor.Vp
open Go.RowKit
structure SCells (w:World)(a0:Option Addr)(n0:Nat)(a1:Option Addr)(n1:Nat)(P:Nat→Prop):Prop where
 src:n0=0∨∃ S,a0=some ⟨S,0,none⟩∧P S∧∃ F,Cells w S 0 (n0*2) F
 tgt:n1=0∨∃ T B m,a1=some ⟨T,0,none⟩∧TCells w T 0 n1 B m∧P T∧(∀ i,i<n1→P (B i))∧(∀ i,i<n1→m i≤1048576)∧∀ S,a0=some ⟨S,0,none⟩→n0≠0→T≠S∧∀ i,i<n1→B i≠S
structure SMarked (w:World)(a0:Option Addr)(n0:Nat)(a1:Option Addr)(n1 r:Nat):Prop where
 src:n0=0∨∃ S,a0=some ⟨S,0,none⟩∧Cells w S 0 (n0*2) (markSource 1)
 tgt:(n1=0∧r=1+n0*2)∨∃ T B m,a1=some ⟨T,0,none⟩∧TMarked w T 0 n1 B m (1+n0*2)∧(∀ i,i<n1→m i≤1048576)∧r=kAt m (1+n0*2) n1
theorem TCells.within {w w':World}{T off n lo hi:Nat}{B m:Nat→Nat}(h:TCells w T off n B m)(hw:Within lo hi w w')(hT:T<lo∨hi≤T)(hB:∀ i,i<n→B i<lo∨hi≤B i):TCells w' T off n B m:=by
 obtain ⟨⟨F,hF,hs⟩,ha,h1,h2⟩:=h
 refine ⟨⟨F,hF.within hw hT,hs⟩,fun i hi=>?_,h1,h2⟩
 obtain ⟨G,hG⟩:=ha i hi
 exact ⟨G,hG.within hw (hB i hi)⟩
theorem TCells.below {w w':World}{T off n Z:Nat}{B m:Nat→Nat}(h:TCells w T off n B m)(hb:Below Z w w')(hZ:w.heap.size≤Z):TCells w' T off n B m:=by
 obtain ⟨⟨F,hF,hs⟩,ha,h1,h2⟩:=h
 refine ⟨⟨F,hF.below hb (Nat.lt_of_lt_of_le hF.1 hZ),hs⟩,fun i hi=>?_,h1,h2⟩
 obtain ⟨G,hG⟩:=ha i hi
 exact ⟨G,hG.below hb (Nat.lt_of_lt_of_le hG.1 hZ)⟩
theorem TMarked.lt {w:World}{T off n k0:Nat}{B m:Nat→Nat}(h:TMarked w T off n B m k0):T<w.heap.size:=by
 obtain ⟨⟨F,hF,_⟩,_⟩:=h
 exact hF.1
theorem SMarked.below {w w':World}{a0 a1:Option Addr}{n0 n1 r Z:Nat}(h:SMarked w a0 n0 a1 n1 r)(hb:Below Z w w')(hZ:w.heap.size≤Z):SMarked w' a0 n0 a1 n1 r:=by
 obtain ⟨h0,h1⟩:=h
 refine ⟨?_,?_⟩
 ·rcases h0 with h | ⟨S,e,hS⟩
  ·exact .inl h
  ·exact .inr ⟨S,e,hS.below hb (Nat.lt_of_lt_of_le hS.1 hZ)⟩
 ·rcases h1 with h | ⟨T,B,m,e,hT,hm,hr⟩
  ·exact .inl h
  ·exact .inr ⟨T,B,m,e,hT.below hb hZ,hm,hr⟩
theorem markSpace_00 (P:Nat→Prop)(a0:Option Addr)(a1:Option Addr)(c0 c1:Nat)(w:World) :
  Calls Tryz.prog 12 #[.agg #[.slice a0 0 c0,.slice a1 0 c1],.int .i64 1] w fun e w'=>∃ r:Nat,e=.returned (.int .i64 r)∧SMarked w' a0 0 a1 0 r∧Touch P w w':=by
 have A0:=hide ((Below.refl w.heap.size w).alloc lr (.cells #[.slice a0 0 c0,.slice a1 0 c1] 34))
 have k1:(w.alloc (.cells #[.slice a0 0 c0,.slice a1 0 c1] 34)).cell? ⟨w.heap.size,1,none⟩=some (.slice a1 0 c1):=by simp
 go_enter Tryz.func12,Tryz.ntmps12
 go_wp2_with fail
 refine (markSourceS_nil a0 c0 1 _).mono ?_
 rintro e w1 ⟨rfl,rfl⟩
 have W1:=hide (Touch.of_below (P:=P) A0.out lr)
 go_wp2_with fail
 refine (markTargetS_nil a1 c1 1 _).mono ?_
 rintro e w2 ⟨rfl,rfl⟩
 have W2:=W1
 go_wp2
 go_ret
 exact ⟨_,rfl,⟨.inl rfl,.inl ⟨rfl,rfl⟩⟩,W2.out⟩
theorem markSpace_01 (P:Nat→Prop)(a0:Option Addr)(n1:Nat)(c0 c1:Nat)(w:World)(T:Nat)(B m:Nat→Nat)(hT:TCells w T 0 n1 B m)(hTl:P T)(hB:∀ i,i<n1→P (B i))(hm:∀ i,i<n1→m i≤1048576)(hn1:(n1:Int)≤1048576) :
  Calls Tryz.prog 12 #[.agg #[.slice a0 0 c0,.slice (some ⟨T,0,none⟩) n1 c1],.int .i64 1] w fun e w'=>∃ r:Nat,e=.returned (.int .i64 r)∧SMarked w' a0 0 (some ⟨T,0,none⟩) n1 r∧Touch P w w':=by
 have A0:=hide ((Below.refl w.heap.size w).alloc lr (.cells #[.slice a0 0 c0,.slice (some ⟨T,0,none⟩) n1 c1] 34))
 have k1:(w.alloc (.cells #[.slice a0 0 c0,.slice (some ⟨T,0,none⟩) n1 c1] 34)).cell? ⟨w.heap.size,1,none⟩=some (.slice (some ⟨T,0,none⟩) n1 c1):=by simp
 have HT:=hide (hT.below A0.out lr)
 have HTl:=hide hTl
 have HB:=hide hB
 have HM:=hide hm
 clear hT hTl hB hm
 go_enter Tryz.func12,Tryz.ntmps12
 go_wp2_with fail
 refine (markSourceS_nil a0 c0 1 _).mono ?_
 rintro e w1 ⟨rfl,rfl⟩
 have W1:=hide (Touch.of_below (P:=P) A0.out lr)
 have T1:=HT
 go_wp2_with fail
 refine (markTargetS_row T 0 n1 c1 1 B m _ hn1 HM.out (by omega) (by omega) T1.out).mono ?_
 rintro e w2 ⟨rfl,hM2,hW2⟩
 have M2:=hide hM2
 have W2:=hide (W1.out.trans (hW2.mono (Q:=P) (fun x hx=>by rcases hx with rfl | ⟨i,hi,rfl⟩;exact HTl.out;exact HB.out i hi)))
 clear hM2 hW2
 go_wp2
 go_ret
 exact ⟨_,rfl,⟨.inl rfl,.inr ⟨T,B,m,rfl,M2.out,HM.out,rfl⟩⟩,W2.out⟩
theorem markSpace_10 (P:Nat→Prop)(a1:Option Addr)(n0:Nat)(c0 c1:Nat)(w:World)(S:Nat)(F:Nat→Value)(hS:P S)(hF:Cells w S 0 (n0*2) F)(hn0:(n0:Int)≤1048576) :
  Calls Tryz.prog 12 #[.agg #[.slice (some ⟨S,0,none⟩) n0 c0,.slice a1 0 c1],.int .i64 1] w fun e w'=>∃ r:Nat,e=.returned (.int .i64 r)∧SMarked w' (some ⟨S,0,none⟩) n0 a1 0 r∧Touch P w w':=by
 have A0:=hide ((Below.refl w.heap.size w).alloc lr (.cells #[.slice (some ⟨S,0,none⟩) n0 c0,.slice a1 0 c1] 34))
 have k1:(w.alloc (.cells #[.slice (some ⟨S,0,none⟩) n0 c0,.slice a1 0 c1] 34)).cell? ⟨w.heap.size,1,none⟩=some (.slice a1 0 c1):=by simp
 have HF:=hide (hF.below A0.out hF.1)
 have HSl:=hide hS
 have hSw:=hF.1
 clear hF hS
 go_enter Tryz.func12,Tryz.ntmps12
 go_wp2_with fail
 refine (markSourceS_row S 0 n0 c0 1 F _ hn0 (by omega) (by omega) HF.out).mono ?_
 rintro e w1 ⟨rfl,hM1,hW1⟩
 have M1:=hide hM1
 have W1:=hide ((Touch.of_below (P:=P) A0.out lr).trans (Touch.of_within hW1 HSl.out))
 have k2:w1.cell? ⟨w.heap.size,1,none⟩=some (.slice a1 0 c1):=(World.cell?_of_block (a:=⟨w.heap.size,1,none⟩) (hW1.block w.heap.size (by simp) (by omega))).trans k1
 clear hM1 hW1 k1
 go_wp2_with fail
 refine (markTargetS_nil a1 c1 (1+n0*2) _).mono ?_
 rintro e w2 ⟨rfl,rfl⟩
 have W2:=W1
 have M1':=M1
 go_wp2
 go_ret
 exact ⟨_,rfl,⟨.inr ⟨S,rfl,M1'.out⟩,.inl ⟨rfl,rfl⟩⟩,W2.out⟩
theorem markSpace_11 (P:Nat→Prop)(n0:Nat)(n1:Nat)(c0 c1:Nat)(w:World)(S:Nat)(F:Nat→Value)(hS:P S)(hF:Cells w S 0 (n0*2) F)(hn0:(n0:Int)≤1048576)(T:Nat)(B m:Nat→Nat)(hT:TCells w T 0 n1 B m)(hTl:P T)(hB:∀ i,i<n1→P (B i))(hm:∀ i,i<n1→m i≤1048576)(hn1:(n1:Int)≤1048576)(hap:T≠S∧∀ i,i<n1→B i≠S) :
  Calls Tryz.prog 12 #[.agg #[.slice (some ⟨S,0,none⟩) n0 c0,.slice (some ⟨T,0,none⟩) n1 c1],.int .i64 1] w fun e w'=>∃ r:Nat,e=.returned (.int .i64 r)∧SMarked w' (some ⟨S,0,none⟩) n0 (some ⟨T,0,none⟩) n1 r∧Touch P w w':=by
 have A0:=hide ((Below.refl w.heap.size w).alloc lr (.cells #[.slice (some ⟨S,0,none⟩) n0 c0,.slice (some ⟨T,0,none⟩) n1 c1] 34))
 have k1:(w.alloc (.cells #[.slice (some ⟨S,0,none⟩) n0 c0,.slice (some ⟨T,0,none⟩) n1 c1] 34)).cell? ⟨w.heap.size,1,none⟩=some (.slice (some ⟨T,0,none⟩) n1 c1):=by simp
 have HF:=hide (hF.below A0.out hF.1)
 have HSl:=hide hS
 have hSw:=hF.1
 clear hF hS
 have HT:=hide (hT.below A0.out lr)
 have HTl:=hide hTl
 have HB:=hide hB
 have HM:=hide hm
 clear hT hTl hB hm
 have HA:=hide hap
 clear hap
 go_enter Tryz.func12,Tryz.ntmps12
 go_wp2_with fail
 refine (markSourceS_row S 0 n0 c0 1 F _ hn0 (by omega) (by omega) HF.out).mono ?_
 rintro e w1 ⟨rfl,hM1,hW1⟩
 have M1:=hide hM1
 have W1:=hide ((Touch.of_below (P:=P) A0.out lr).trans (Touch.of_within hW1 HSl.out))
 have k2:w1.cell? ⟨w.heap.size,1,none⟩=some (.slice (some ⟨T,0,none⟩) n1 c1):=(World.cell?_of_block (a:=⟨w.heap.size,1,none⟩) (hW1.block w.heap.size (by simp) (by omega))).trans k1
 have T1:=hide (HT.out.within hW1 (by have:=HA.out.1;omega) (fun i hi=>by have:=HA.out.2 i hi;omega))
 clear hM1 hW1 k1
 go_wp2_with fail
 refine (markTargetS_row T 0 n1 c1 (1+n0*2) B m _ hn1 HM.out (by omega) (by omega) T1.out).mono ?_
 rintro e w2 ⟨rfl,hM2,hW2⟩
 have M2:=hide hM2
 have W2:=hide (W1.out.trans (hW2.mono (Q:=P) (fun x hx=>by rcases hx with rfl | ⟨i,hi,rfl⟩;exact HTl.out;exact HB.out i hi)))
 have M1':=hide (M1.out.touch hW2 (fun hx=>by rcases hx with hx | ⟨i,hi,hx⟩;exact HA.out.1 hx.symm;exact HA.out.2 i hi hx.symm))
 clear hM2 hW2
 go_wp2
 go_ret
 exact ⟨_,rfl,⟨.inr ⟨S,rfl,M1'.out⟩,.inr ⟨T,B,m,rfl,M2.out,HM.out,rfl⟩⟩,W2.out⟩
theorem markSpace_any (P:Nat→Prop)(a0 a1:Option Addr)(n0 c0 n1 c1:Nat)(w:World)(hn0:(n0:Int)≤1048576)(hn1:(n1:Int)≤1048576)(h:SCells w a0 n0 a1 n1 P) :
  Calls Tryz.prog 12 #[.agg #[.slice a0 n0 c0,.slice a1 n1 c1],.int .i64 1] w fun e w'=>∃ r:Nat,e=.returned (.int .i64 r)∧SMarked w' a0 n0 a1 n1 r∧Touch P w w':=by
 obtain ⟨h0,h1⟩:=h
 rcases h0 with rfl | ⟨S,rfl,hS,F,hF⟩
 ·rcases h1 with rfl | ⟨T,B,m,rfl,hT,hTl,hB,hm,_⟩
  ·exact markSpace_00 P a0 a1 c0 c1 w
  ·exact markSpace_01 P a0 n1 c0 c1 w T B m hT hTl hB hm hn1
 ·by_cases hz:n0=0
  ·subst hz
   rcases h1 with rfl | ⟨T,B,m,rfl,hT,hTl,hB,hm,_⟩
   ·exact markSpace_00 P _ a1 c0 c1 w
   ·exact markSpace_01 P _ n1 c0 c1 w T B m hT hTl hB hm hn1
  ·rcases h1 with rfl | ⟨T,B,m,rfl,hT,hTl,hB,hm,hap⟩
   ·exact markSpace_10 P a1 n0 c0 c1 w S F hS hF hn0
   ·exact markSpace_11 P n0 n1 c0 c1 w S F hS hF hn0 T B m hT hTl hB hm hn1 (hap S rfl hz)
structure Two (w:World)(b:Nat)(v0 v1:Value):Prop where
 lt:b<w.heap.size
 c0:w.cell? ⟨b,0,none⟩=some v0
 c1:w.cell? ⟨b,1,none⟩=some v1
theorem Two.block {w w':World}{b:Nat}{v0 v1:Value}(h:Two w b v0 v1)(hz:w.heap.size≤w'.heap.size)(hb:w'.heap[b]?=w.heap[b]?):Two w' b v0 v1 :=
 ⟨Nat.lt_of_lt_of_le h.lt hz,(World.cell?_of_block (a:=⟨b,0,none⟩) hb).trans h.c0,(World.cell?_of_block (a:=⟨b,1,none⟩) hb).trans h.c1⟩
theorem Two.below {w w':World}{b:Nat}{v0 v1:Value}(h:Two w b v0 v1)(hb:Below w.heap.size w w'):Two w' b v0 v1:=h.block hb.size (hb.block b h.lt)
theorem Two.touch {w w':World}{b:Nat}{v0 v1:Value}{P:Nat→Prop}(h:Two w b v0 v1)(ht:Touch P w w')(hb:¬ P b):Two w' b v0 v1:=h.block ht.size (ht.block b h.lt hb)
theorem two_box (w:World)(v0 v1:Value)(t:TypeId):Two (w.alloc (.cells #[v0,v1] t)) w.heap.size v0 v1:=⟨by simp,by simp,by simp⟩
theorem scells_copy {w:World}{g0 g1 n0 n1 N lo:Nat}{f0:Nat→Source}{f1:Nat→Target}(h0:OwnSource w g0 n0 n0 f0)(h1:OwnTarget2 w g1 n1 n1 N f1)(hlo:lo≤g0)(hlt:g0<g1)(hf:∀ i,i<n1→FitsTarget (f1 i)):SCells w (some ⟨g0,0,none⟩) n0 (some ⟨g1,0,none⟩) n1 (fun k=>lo≤k∧k<w.heap.size):=by
 have hl1:=h1.lt
 obtain ⟨F0,hF0⟩:=h0.cells
 refine ⟨.inr ⟨g0,rfl,⟨hlo,h0.lt⟩,F0,hF0⟩,?_⟩
 obtain ⟨F,G,hr,hup,hlt2,hF⟩:=h1
 refine .inr ⟨g1,G,fun i=>(f1 i).actN,rfl,⟨⟨F,cells_of_row hr,fun i hi=>⟨_,(hF i hi).2.1⟩⟩,fun i hi=>(hF i hi).2.2.1.cells,fun i hi=>?_,fun i j hi hj hij=>?_⟩,⟨by omega,hl1⟩,fun i hi=>?_,fun i hi=>hf i hi,fun S hS _=>?_⟩
 ·have:=(hF i hi).2.2.2
  omega
 ·rcases Nat.lt_or_gt_of_ne hij with h | h
  ·have:=hup i j h hj
   omega
  ·have:=hup j i h hi
   omega
 ·have h1:=(hF i hi).2.2.2
  have h2:=(hF i hi).2.2.1.lt
  exact ⟨by omega,h2⟩
 ·simp at hS
  subst hS
  refine ⟨by omega,fun i hi=>?_⟩
  have:=(hF i hi).2.2.2
  omega
theorem SCells.below {w w':World}{a0 a1:Option Addr}{n0 n1:Nat}{P:Nat→Prop}(h:SCells w a0 n0 a1 n1 P)(hb:Below w.heap.size w w'):SCells w' a0 n0 a1 n1 P:=by
 obtain ⟨h0,h1⟩:=h
 refine ⟨?_,?_⟩
 ·rcases h0 with h | ⟨S,e,hp,F,hF⟩
  ·exact .inl h
  ·exact .inr ⟨S,e,hp,F,hF.below hb hF.1⟩
 ·rcases h1 with h | ⟨T,B,m,e,hT,r⟩
  ·exact .inl h
  ·exact .inr ⟨T,B,m,e,hT.below hb lr,r⟩
def markStr (k0:Nat)(j:Nat):Value:=.string (mkT ((k0:Int)+j))
theorem markStr_at {k0 k q:Nat}(h:q=k0+k):markStr k0 k=.string (mkT (q:Int)):=by
 have e:(k0:Int)+(k:Int)=(q:Int):=by omega
 unfold markStr
 rw [e]
theorem markStringS_row (b off n cap k0:Nat)(F:Nat→Value)(w:World)(hn:(n:Int)≤1048576)(h1:1≤(k0:Int))(h2:(k0:Int)≤1152921504606846976)(hC:Cells w b off n F) :
  Calls Tryz.prog 45 #[.slice (some ⟨b,off,none⟩) n cap,.int .i64 k0] w fun e w'=>e=.returned (.int .i64 ((k0+n:Nat):Int))∧Cells w' b off n (markStr k0)∧Within b (b+1) w w':=by
 have HC:=hide hC
 clear hC
 go_enter Tryz.func45,Tryz.ntmps45
 go_wp2
 go_loopw [1,5] (fun v i wr=>∃ (k q:Nat) (F:Nat→Value),k≤n∧Hid (q=k0+k)∧i=.int .i64 k∧v=.int .i64 q∧Hid (Cells wr b off n F)∧Hid (∀ j,j<k→F j=markStr k0 j)∧Hid (Within b (b+1) w wr)) (fun _ i _=>n - (intOf i).toNat)
 case atStart=>exact ⟨0,k0,F,by omega,by show k0=_;omega,rfl,rfl,HC.out,fun j hj=>by omega,Within.refl _ _ _⟩
 case round =>
  obtain ⟨k,q,F,hk,HQ,rfl,rfl,HC0,HM,HW0⟩:=hrel
  have hq1:1≤(q:Int):=by have:=HQ.out;omega
  have hq2:(q:Int)≤1152921504610000000:=by have:=HQ.out;omega
  by_cases hlt:k<n
  ·obtain ⟨c0,z0⟩:=HC0.out.at (off+k) k (by omega) (by omega)
   go_wp2_with fail
   refine (markText_int (q:Int) _ (by omega) (by omega)).mono ?_
   rintro e w1 ⟨rfl,hB⟩
   have HC1:=hide (HC0.out.below hB HC0.out.1)
   have HW1:=hide (HW0.out.below hB lr)
   clear hB c0 z0
   obtain ⟨c1,z1⟩:=HC1.out.at (off+k) k (by omega) (by omega)
   have HS1:=hide (HC1.out.setAt (off+k) k (by omega) (by omega) (.string (mkT (q:Int))))
   have HX1:=hide (HW1.out.setCell (p:=⟨b,off+k,none⟩) lr (Nat.lt_succ_self _) (.string (mkT (q:Int))))
   go_wp2
   refine ⟨⟨k+1,q+1,_,by omega,by show q+1=k0+(k+1);have:=HQ.out;omega,by go_num,by go_num,HS1.out,?_,HX1.out⟩,by simp [intOf];omega⟩
   intro j hj
   rcases (show j<k∨j=k by omega) with h | rfl
   ·rw [if_neg (by omega),HM.out j h]
   ·rw [if_pos rfl,markStr_at HQ.out]
  ·have e:k=n:=by omega
   subst e
   have hv:(q:Int)=((k0+k:Nat):Int):=by rw [HQ.out]
   have HV:=hide hv
   clear hv
   go_wp2
   go_ret
   exact ⟨by show Ending.returned (.int .i64 (q:Int))=_;rw [HV.out],HC0.out.congr HM.out,HW0.out⟩
theorem markStringS_nil (a:Option Addr)(cap k0:Nat)(w:World):Calls Tryz.prog 45 #[.slice a 0 cap,.int .i64 k0] w fun e w'=>e=.returned (.int .i64 (k0:Int))∧w'=w:=by
 go_enter Tryz.func45,Tryz.ntmps45
 go_wp2
 go_loop [1,5] (fun v i=>v=.int .i64 k0∧i=.int .i64 0) (fun _ _=>0)
 case atStart=>exact ⟨rfl,rfl⟩
 case round =>
  obtain ⟨rfl,rfl⟩:=hrel
  go_wp2
  go_ret
  exact ⟨rfl,rfl⟩
theorem heldStringS_nil (a:Option Addr)(cap k0:Nat)(w:World):Calls Tryz.prog 46 #[.slice a 0 cap,.int .i64 k0] w fun e w'=>e=.returned (.int .i64 (k0:Int))∧w'=w:=by
 go_enter Tryz.func46,Tryz.ntmps46
 go_wp2
 go_loop [1,5] (fun v i=>v=.int .i64 k0∧i=.int .i64 0) (fun _ _=>0)
 case atStart=>exact ⟨rfl,rfl⟩
 case round =>
  obtain ⟨rfl,rfl⟩:=hrel
  go_wp2
  go_ret
  exact ⟨rfl,rfl⟩
theorem heldStringS_row (b off n cap k0:Nat)(w:World)(hn:(n:Int)≤1048576)(h1:1≤(k0:Int))(h2:(k0:Int)≤1152921504606846976)(hC:Cells w b off n (markStr k0)) :
  Calls Tryz.prog 46 #[.slice (some ⟨b,off,none⟩) n cap,.int .i64 k0] w fun e w'=>e=.returned (.int .i64 ((k0+n:Nat):Int))∧Below w.heap.size w w':=by
 have HC:=hide hC
 have hb:b<w.heap.size:=hC.1
 clear hC
 go_enter Tryz.func46,Tryz.ntmps46
 go_wp2
 go_loopw [1,5] (fun v i wr=>∃ k q:Nat,k≤n∧Hid (q=k0+k)∧i=.int .i64 k∧v=.int .i64 q∧Hid (Below w.heap.size w wr)) (fun _ i _=>n - (intOf i).toNat)
 case atStart=>exact ⟨0,k0,by omega,by show k0=_;omega,rfl,rfl,Below.refl _ _⟩
 case round =>
  obtain ⟨k,q,hk,HQ,rfl,rfl,HB0⟩:=hrel
  have hq1:1≤(q:Int):=by have:=HQ.out;omega
  have hq2:(q:Int)≤1152921504610000000:=by have:=HQ.out;omega
  have hb0:b<wr.heap.size:=Nat.lt_of_lt_of_le hb HB0.out.size
  have H0:=hide (HC.out.below HB0.out hb)
  by_cases hlt:k<n
  ·have c0:wr.cell? ⟨b,off+k,none⟩=some (.string (mkT (q:Int))):=by have:=(H0.out.at (off+k) k (by omega) (by omega)).1;rw [markStr_at HQ.out] at this;exact this
   go_wp2_with fail
   go_region_with (go_at_call 99;refine (markText_int (q:Int) _ (by omega) (by omega)).mono ?_;rintro e w1 ⟨rfl,hB⟩;have D1:Hid (Below wr.heap.size wr w1):=⟨hB.os,hB.tape,hB.output,hB.size,hB.block⟩;have HB1:=hide (HB0.out.trans (D1.out.mono HB0.out.size));have H1:=hide (H0.out.below D1.out hb0);have hb1:b<w1.heap.size:=Nat.lt_of_lt_of_le hb0 D1.out.size;have c1:w1.cell? ⟨b,off+k,none⟩=some (.string (mkT (q:Int))):=(D1.out.cell (p:=⟨b,off+k,none⟩) hb0).trans c0;clear hB)
   all_goals
    go_wp2
    exact ⟨⟨k+1,q+1,by omega,by show q+1=k0+(k+1);have:=HQ.out;omega,by go_num,by go_num,HB1.out⟩,by simp [intOf];omega⟩
  ·have e:k=n:=by omega
   subst e
   have hv:(q:Int)=((k0+k:Nat):Int):=by rw [HQ.out]
   have HV:=hide hv
   clear hv
   go_wp2
   go_ret
   exact ⟨by show Ending.returned (.int .i64 (q:Int))=_;rw [HV.out],HB0.out⟩
def markLink (k0:Nat)(j:Nat):Value:=if j % 4=0 then .string (mkT ((k0:Int)+j)) else if j % 4=3 then .int .i64 ((k0:Int)+j) else .bool (decide (((k0:Int)+j) % 3=0))
theorem markLink_0 {k0 k q:Nat}(h:q=k0+k*4):markLink k0 (k*4)=.string (mkT (q:Int)):=by
 have e:(k0:Int)+((k*4:Nat):Int)=(q:Int):=by omega
 unfold markLink
 rw [if_pos (by omega),e]
theorem markLink_1 {k0 k q:Nat}(h:q=k0+k*4):markLink k0 (k*4+1)=.bool (decide (((q:Int)+1) % 3=0)):=by
 have e:(k0:Int)+((k*4+1:Nat):Int)=(q:Int)+1:=by omega
 unfold markLink
 rw [if_neg (by omega),if_neg (by omega),e]
theorem markLink_2 {k0 k q:Nat}(h:q=k0+k*4):markLink k0 (k*4+2)=.bool (decide (((q:Int)+2) % 3=0)):=by
 have e:(k0:Int)+((k*4+2:Nat):Int)=(q:Int)+2:=by omega
 unfold markLink
 rw [if_neg (by omega),if_neg (by omega),e]
theorem markLink_3 {k0 k q:Nat}(h:q=k0+k*4):markLink k0 (k*4+3)=.int .i64 ((q:Int)+3):=by
 have e:(k0:Int)+((k*4+3:Nat):Int)=(q:Int)+3:=by omega
 unfold markLink
 rw [if_neg (by omega),if_pos (by omega),e]
theorem markLinkS_row (b off n cap k0:Nat)(F:Nat→Value)(w:World)(hn:(n:Int)≤1048576)(h1:1≤(k0:Int))(h2:(k0:Int)≤1152921504606846976)(hC:Cells w b off (n*4) F) :
  Calls Tryz.prog 104 #[.slice (some ⟨b,off,none⟩) n cap,.int .i64 k0] w fun e w'=>e=.returned (.int .i64 ((k0+n*4:Nat):Int))∧Cells w' b off (n*4) (markLink k0)∧Within b (b+1) w w':=by
 have HC:=hide hC
 clear hC
 go_enter Tryz.func104,Tryz.ntmps104
 go_wp2
 go_loopw [1,5] (fun v i wr=>∃ (k q:Nat) (F:Nat→Value),k≤n∧Hid (q=k0+k*4)∧i=.int .i64 k∧v=.int .i64 q∧Hid (Cells wr b off (n*4) F)∧Hid (∀ j,j<k*4→F j=markLink k0 j)∧Hid (Within b (b+1) w wr)) (fun _ i _=>n - (intOf i).toNat)
 case atStart=>exact ⟨0,k0,F,by omega,by show k0=_;omega,rfl,rfl,HC.out,fun j hj=>by omega,Within.refl _ _ _⟩
 case round =>
  obtain ⟨k,q,F,hk,HQ,rfl,rfl,HC0,HM,HW0⟩:=hrel
  have hq1:1≤(q:Int):=by have:=HQ.out;omega
  have hq2:(q:Int)≤1152921504620000000:=by have:=HQ.out;omega
  by_cases hlt:k<n
  ·have hkk:k*4+4≤n*4:=by omega
   go_wp2_with fail
   refine (markText_int (q:Int) _ (by omega) (by omega)).mono ?_
   rintro e w1 ⟨rfl,hB⟩
   have HC1:=hide (HC0.out.below hB HC0.out.1)
   have HW1:=hide (HW0.out.below hB lr)
   clear hB
   obtain ⟨c0,z0⟩:=HC1.out.at (off+k*4) (k*4) (by omega) (by omega)
   obtain ⟨c1,z1⟩:=HC1.out.at (off+k*4+1) (k*4+1) (by omega) (by omega)
   obtain ⟨c2,z2⟩:=HC1.out.at (off+k*4+2) (k*4+2) (by omega) (by omega)
   obtain ⟨c3,z3⟩:=HC1.out.at (off+k*4+3) (k*4+3) (by omega) (by omega)
   go_wp2
   refine ⟨⟨k+1,q+4,_,by omega,by show q+4=k0+(k+1)*4;have:=HQ.out;omega,by go_num,by go_num,(((HC1.out.setAt (off+k*4) (k*4) (by omega) (by omega) _).setAt (off+k*4+1) (k*4+1) (by omega) (by omega) _).setAt (off+k*4+2) (k*4+2) (by omega) (by omega) _).setAt (off+k*4+3) (k*4+3) (by omega) (by omega) _,?_,(((HW1.out.setCell (p:=⟨b,off+k*4,none⟩) lr (Nat.lt_succ_self _) _).setCell (p:=⟨b,off+k*4+1,none⟩) lr (Nat.lt_succ_self _) _).setCell (p:=⟨b,off+k*4+2,none⟩) lr (Nat.lt_succ_self _) _).setCell (p:=⟨b,off+k*4+3,none⟩) lr (Nat.lt_succ_self _) _⟩,by simp [intOf];omega⟩
   intro j hj
   rcases (show j<k*4∨j=k*4∨j=k*4+1∨j=k*4+2∨j=k*4+3 by omega) with h | rfl | rfl | rfl | rfl
   ·rw [if_neg (by omega),if_neg (by omega),if_neg (by omega),if_neg (by omega),HM.out j h]
   ·rw [if_neg (by omega),if_neg (by omega),if_neg (by omega),if_pos rfl,markLink_0 HQ.out]
   ·rw [if_neg (by omega),if_neg (by omega),if_pos rfl,markLink_1 HQ.out]
    rfl
   ·rw [if_neg (by omega),if_pos rfl,markLink_2 HQ.out]
    rfl
   ·rw [if_pos rfl,markLink_3 HQ.out,show (q:Int)+1+1+1=(q:Int)+3 by omega]
  ·have e:k=n:=by omega
   subst e
   have hv:(q:Int)=((k0+k*4:Nat):Int):=by rw [HQ.out]
   have HV:=hide hv
   clear hv
   go_wp2
   go_ret
   exact ⟨by show Ending.returned (.int .i64 (q:Int))=_;rw [HV.out],HC0.out.congr HM.out,HW0.out⟩
theorem markLinkS_nil (a:Option Addr)(cap k0:Nat)(w:World):Calls Tryz.prog 104 #[.slice a 0 cap,.int .i64 k0] w fun e w'=>e=.returned (.int .i64 (k0:Int))∧w'=w:=by
 go_enter Tryz.func104,Tryz.ntmps104
 go_wp2
 go_loop [1,5] (fun v i=>v=.int .i64 k0∧i=.int .i64 0) (fun _ _=>0)
 case atStart=>exact ⟨rfl,rfl⟩
 case round =>
  obtain ⟨rfl,rfl⟩:=hrel
  go_wp2
  go_ret
  exact ⟨rfl,rfl⟩
def dAt (a l:Nat→Nat)(k0:Nat):Nat→Nat
 | 0=>k0
 | i+1=>dAt a l k0 i+4+a i*3+l i*4
theorem dAt_le {a l:Nat→Nat}{k0 n:Nat}(ha:∀ i,i<n→a i≤1048576)(hl:∀ i,i<n→l i≤1048576):dAt a l k0 n≤k0+n*7340036:=by
 induction n with
 | zero=>simp [dAt]
 | succ j ih =>
  have h1:=ih (fun i hi=>ha i (by omega)) (fun i hi=>hl i (by omega))
  have h2:=ha j (by omega)
  have h3:=hl j (by omega)
  simp only [dAt]
  omega
theorem dAt_ge {a l:Nat→Nat}{k0 n:Nat}:k0≤dAt a l k0 n:=by
 induction n with
 | zero=>exact Nat.le_refl _
 | succ j ih =>
  simp only [dAt]
  omega
theorem markInsS_sl (p:Option Addr)(n cap k0 b:Nat)(w:World)(hn:(n:Int)≤1048576)(h1:1≤(k0:Int))(h2:(k0:Int)≤1152921504606846976)(h:Room w p n b (n*3)) :
  Calls Tryz.prog 100 #[.slice p n cap,.int .i64 k0] w fun e w'=>e=.returned (.int .i64 ((k0+n*3:Nat):Int))∧(n=0∨Cells w' b 0 (n*3) (markIns k0))∧Touch (fun x=>n≠0∧x=b) w w':=by
 by_cases hz:n=0
 ·subst hz
  exact (markInsS_nil p cap k0 w).mono fun e w' ⟨a,b⟩=>⟨by simpa using a,.inl rfl,by rw [b];exact Touch.refl _ _⟩
 ·obtain ⟨rfl,G,hG⟩:=h.resolve_left hz
  exact (markInsS_row b 0 n cap k0 G w hn h1 h2 hG).mono fun e w' ⟨x,y,z⟩=>⟨x,.inr y,Touch.of_within z ⟨hz,rfl⟩⟩
theorem markLinkS_sl (p:Option Addr)(n cap k0 b:Nat)(w:World)(hn:(n:Int)≤1048576)(h1:1≤(k0:Int))(h2:(k0:Int)≤1152921504606846976)(h:Room w p n b (n*4)) :
  Calls Tryz.prog 104 #[.slice p n cap,.int .i64 k0] w fun e w'=>e=.returned (.int .i64 ((k0+n*4:Nat):Int))∧(n=0∨Cells w' b 0 (n*4) (markLink k0))∧Touch (fun x=>n≠0∧x=b) w w':=by
 by_cases hz:n=0
 ·subst hz
  exact (markLinkS_nil p cap k0 w).mono fun e w' ⟨a,b⟩=>⟨by simpa using a,.inl rfl,by rw [b];exact Touch.refl _ _⟩
 ·obtain ⟨rfl,G,hG⟩:=h.resolve_left hz
  exact (markLinkS_row b 0 n cap k0 G w hn h1 h2 hG).mono fun e w' ⟨x,y,z⟩=>⟨x,.inr y,Touch.of_within z ⟨hz,rfl⟩⟩
structure DPlan (T n:Nat)(A L a l:Nat→Nat):Prop where
 fit:∀ i,i<n→a i≤1048576∧l i≤1048576
 apart:∀ i,i<n→(a i≠0→A i≠T)∧(l i≠0→L i≠T)
 each:∀ i j,i<n→j<n→i≠j→(a i≠0→a j≠0→A i≠A j)∧(l i≠0→l j≠0→L i≠L j)
 cross:∀ i j,i<n→j<n→a i≠0→l j≠0→A i≠L j
def DBlk (T n:Nat)(A L a l:Nat→Nat)(x:Nat):Prop:=x=T∨∃ i,i<n∧((a i≠0∧x=A i)∨(l i≠0∧x=L i))
structure DCells (w:World)(T n:Nat)(A L a l:Nat→Nat):Prop where
 row:∃ F,Cells w T 0 (n*6) F∧∀ i,i<n→(∃ p cap,F (i*6+4)=.slice p (a i) cap∧(a i≠0→p=some ⟨A i,0,none⟩))∧∃ p cap,F (i*6+5)=.slice p (l i) cap∧(l i≠0→p=some ⟨L i,0,none⟩)
 act:∀ i,i<n→a i≠0→∃ G,Cells w (A i) 0 (a i*3) G
 lnk:∀ i,i<n→l i≠0→∃ G,Cells w (L i) 0 (l i*4) G
structure DMarked (w:World)(T n:Nat)(A L a l:Nat→Nat)(k0:Nat):Prop where
 row:∃ F,Cells w T 0 (n*6) F∧∀ i,i<n→F (i*6)=.string (mkT ((dAt a l k0 i:Nat):Int))∧F (i*6+1)=.int .i64 ((dAt a l k0 i+1:Nat):Int)∧F (i*6+2)=.int .i64 ((dAt a l k0 i+2:Nat):Int)∧F (i*6+3)=.string (mkT ((dAt a l k0 i+3:Nat):Int))∧(∃ p cap,F (i*6+4)=.slice p (a i) cap∧(a i≠0→p=some ⟨A i,0,none⟩))∧∃ p cap,F (i*6+5)=.slice p (l i) cap∧(l i≠0→p=some ⟨L i,0,none⟩)
 act:∀ i,i<n→a i≠0→Cells w (A i) 0 (a i*3) (markIns (dAt a l k0 i+4))
 lnk:∀ i,i<n→l i≠0→Cells w (L i) 0 (l i*4) (markLink (dAt a l k0 i+4+a i*3))
theorem DMarked.below {w w':World}{T n k0 Z:Nat}{A L a l:Nat→Nat}(h:DMarked w T n A L a l k0)(hb:Below Z w w')(hZ:w.heap.size≤Z):DMarked w' T n A L a l k0:=by
 obtain ⟨⟨F,hF,h1⟩,h2,h3⟩:=h
 exact ⟨⟨F,hF.below hb (Nat.lt_of_lt_of_le hF.1 hZ),h1⟩,fun i hi hz=>(h2 i hi hz).below hb (Nat.lt_of_lt_of_le (h2 i hi hz).1 hZ),fun i hi hz=>(h3 i hi hz).below hb (Nat.lt_of_lt_of_le (h3 i hi hz).1 hZ)⟩
theorem DCells.below {w w':World}{T n Z:Nat}{A L a l:Nat→Nat}(h:DCells w T n A L a l)(hb:Below Z w w')(hZ:w.heap.size≤Z):DCells w' T n A L a l:=by
 obtain ⟨⟨F,hF,h1⟩,h2,h3⟩:=h
 refine ⟨⟨F,hF.below hb (Nat.lt_of_lt_of_le hF.1 hZ),h1⟩,fun i hi hz=>?_,fun i hi hz=>?_⟩
 ·obtain ⟨G,hG⟩:=h2 i hi hz
  exact ⟨G,hG.below hb (Nat.lt_of_lt_of_le hG.1 hZ)⟩
 ·obtain ⟨G,hG⟩:=h3 i hi hz
  exact ⟨G,hG.below hb (Nat.lt_of_lt_of_le hG.1 hZ)⟩
structure DPart (w:World)(T n k ka kl k0:Nat)(A L a l:Nat→Nat)(F:Nat→Value):Prop where
 row:Cells w T 0 (n*6) F
 sl:∀ i,i<n→(∃ p cap,F (i*6+4)=.slice p (a i) cap∧(a i≠0→p=some ⟨A i,0,none⟩))∧∃ p cap,F (i*6+5)=.slice p (l i) cap∧(l i≠0→p=some ⟨L i,0,none⟩)
 mrk:∀ i,i<k→F (i*6)=.string (mkT ((dAt a l k0 i:Nat):Int))∧F (i*6+1)=.int .i64 ((dAt a l k0 i+1:Nat):Int)∧F (i*6+2)=.int .i64 ((dAt a l k0 i+2:Nat):Int)∧F (i*6+3)=.string (mkT ((dAt a l k0 i+3:Nat):Int))
 actM:∀ i,i<k→a i≠0→Cells w (A i) 0 (a i*3) (markIns (dAt a l k0 i+4))
 lnkM:∀ i,i<k→l i≠0→Cells w (L i) 0 (l i*4) (markLink (dAt a l k0 i+4+a i*3))
 act:∀ i,ka≤i→i<n→a i≠0→∃ G,Cells w (A i) 0 (a i*3) G
 lnk:∀ i,kl≤i→i<n→l i≠0→∃ G,Cells w (L i) 0 (l i*4) G
theorem DPart.move {w w':World}{T n k ka kl k0:Nat}{A L a l:Nat→Nat}{F F':Nat→Value}(h:DPart w T n k ka kl k0 A L a l F)(hr:Cells w' T 0 (n*6) F')(hs:∀ i,i<n→F' (i*6+4)=F (i*6+4)∧F' (i*6+5)=F (i*6+5))(hm:∀ i,i<k→∀ j,j<4→F' (i*6+j)=F (i*6+j)){Q:Nat→Prop}(ht:Touch Q w w')(hA:∀ i,i<n→(i<k∨ka≤i)→a i≠0→¬ Q (A i))(hL:∀ i,i<n→(i<k∨kl≤i)→l i≠0→¬ Q (L i))(hk:k≤n):DPart w' T n k ka kl k0 A L a l F':=by
 refine ⟨hr,fun i hi=>?_,fun i hi=>?_,fun i hi hz=>(h.actM i hi hz).touch ht (hA i (by omega) (.inl hi) hz),fun i hi hz=>(h.lnkM i hi hz).touch ht (hL i (by omega) (.inl hi) hz),fun i h1 h2 hz=>?_,fun i h1 h2 hz=>?_⟩
 ·rw [(hs i hi).1,(hs i hi).2]
  exact h.sl i hi
 ·have e0:F' (i*6)=F (i*6):=hm i hi 0 (by omega)
  rw [e0,hm i hi 1 (by omega),hm i hi 2 (by omega),hm i hi 3 (by omega)]
  exact h.mrk i hi
 ·obtain ⟨G,hG⟩:=h.act i h1 h2 hz
  exact ⟨G,hG.touch ht (hA i h2 (.inr h1) hz)⟩
 ·obtain ⟨G,hG⟩:=h.lnk i h1 h2 hz
  exact ⟨G,hG.touch ht (hL i h2 (.inr h1) hz)⟩
theorem DPart.below {w w':World}{T n k ka kl k0 Z:Nat}{A L a l:Nat→Nat}{F:Nat→Value}(h:DPart w T n k ka kl k0 A L a l F)(hb:Below Z w w')(hZ:w.heap.size≤Z)(hk:k≤n):DPart w' T n k ka kl k0 A L a l F :=
 h.move (h.row.below hb (Nat.lt_of_lt_of_le h.row.1 hZ)) (fun _ _=>⟨rfl,rfl⟩) (fun _ _ _ _=>rfl) (Q:=fun _=>False) (Touch.of_below hb hZ) (fun _ _ _ _ h=>h) (fun _ _ _ _ h=>h) hk
theorem DPart.setCell {w:World}{T n k ka kl k0:Nat}{A L a l:Nat→Nat}{F:Nat→Value}(h:DPart w T n k ka kl k0 A L a l F)(hP:DPlan T n A L a l)(hk:k<n)(x j:Nat)(hx:x=0+(k*6+j))(hj:j<4)(v:Value):DPart (w.setCell ⟨T,x,none⟩ v) T n k ka kl k0 A L a l (fun y=>if y=k*6+j then v else F y):=by
 have hr:=h.row.setAt x (k*6+j) hx (by omega) v
 refine h.move hr (fun i hi=>⟨?_,?_⟩) (fun i hi y hy=>?_) (Q:=fun y=>y=T) ((Touch.refl (fun y=>y=T) w).setCell (p:=⟨T,x,none⟩) rfl v) (fun i hi _ hz=>(hP.apart i hi).1 hz) (fun i hi _ hz=>(hP.apart i hi).2 hz) (by omega)
 ·exact if_neg (by omega)
 ·exact if_neg (by omega)
 ·exact if_neg (by omega)
theorem DPart.acted {w w':World}{T n k k0:Nat}{A L a l:Nat→Nat}{F:Nat→Value}(h:DPart w T n k k k k0 A L a l F)(hP:DPlan T n A L a l)(hk:k<n)(ht:Touch (fun x=>a k≠0∧x=A k) w w'):DPart w' T n k (k+1) k k0 A L a l F:=by
 have h':DPart w T n k (k+1) k k0 A L a l F:=⟨h.row,h.sl,h.mrk,h.actM,h.lnkM,fun i hi=>h.act i (by omega),h.lnk⟩
 refine h'.move (h.row.touch ht fun e=>(hP.apart k hk).1 e.1 e.2.symm) (fun _ _=>⟨rfl,rfl⟩) (fun _ _ _ _=>rfl) ht (fun i hi h1 hz e=>?_) (fun i hi h1 hz e=>hP.cross k i hk hi e.1 hz e.2.symm) (by omega)
 exact (hP.each i k hi hk (by omega)).1 hz e.1 e.2
theorem DPart.linked {w w':World}{T n k k0 q:Nat}{A L a l:Nat→Nat}{F:Nat→Value}(h:DPart w T n k (k+1) k k0 A L a l F)(hP:DPlan T n A L a l)(hk:k<n)(ht:Touch (fun x=>l k≠0∧x=L k) w w')(hq:q=dAt a l k0 k)
  (hA:a k=0∨Cells w (A k) 0 (a k*3) (markIns (q+4))) (hL:l k=0∨Cells w' (L k) 0 (l k*4) (markLink (q+4+a k*3)))
  (e0:F (k*6)=.string (mkT (q:Int))) (e1:F (k*6+1)=.int .i64 ((q:Int)+1)) (e2:F (k*6+2)=.int .i64 ((q:Int)+1+1)) (e3:F (k*6+3)=.string (mkT ((q:Int)+1+1+1))):DPart w' T n (k+1) (k+1) (k+1) k0 A L a l F:=by
 have h':DPart w T n k (k+1) (k+1) k0 A L a l F:=⟨h.row,h.sl,h.mrk,h.actM,h.lnkM,h.act,fun i hi=>h.lnk i (by omega)⟩
 have h2:DPart w' T n k (k+1) (k+1) k0 A L a l F:=by
  refine h'.move (h.row.touch ht fun e=>(hP.apart k hk).2 e.1 e.2.symm) (fun _ _=>⟨rfl,rfl⟩) (fun _ _ _ _=>rfl) ht (fun i hi h1 hz e=>hP.cross i k hi hk hz e.1 e.2) (fun i hi h1 hz e=>?_) (by omega)
  exact (hP.each i k hi hk (by omega)).2 hz e.1 e.2
 subst hq
 refine ⟨h2.row,h2.sl,fun i hi=>?_,fun i hi hz=>?_,fun i hi hz=>?_,h2.act,h2.lnk⟩
 ·by_cases e:i=k
  ·subst e
   exact ⟨e0,e1,e2,e3⟩
  ·exact h2.mrk i (by omega)
 ·by_cases e:i=k
  ·subst e
   exact (hA.resolve_left hz).touch ht fun e=>hP.cross i i hk hk hz e.1 e.2
  ·exact h2.actM i (by omega) hz
 ·by_cases e:i=k
  ·subst e
   exact hL.resolve_left hz
  ·exact h2.lnkM i (by omega) hz
theorem markDeedS_row (T n cap k0:Nat)(A L a l:Nat→Nat)(w:World)(hn:(n:Int)≤1048576)(h1:1≤(k0:Int))(h2:(k0:Int)≤1125899906842624)(hP:DPlan T n A L a l)(hC:DCells w T n A L a l) :
  Calls Tryz.prog 50 #[.slice (some ⟨T,0,none⟩) n cap,.int .i64 k0] w fun e w'=>e=.returned (.int .i64 ((dAt a l k0 n:Nat):Int))∧DMarked w' T n A L a l k0∧Touch (DBlk T n A L a l) w w':=by
 have HC:=hide hC
 have HP:=hide hP
 clear hC hP
 go_enter Tryz.func50,Tryz.ntmps50
 go_wp2
 go_loopw [1,5] (fun v i wr=>∃ (k q:Nat) (F:Nat→Value),k≤n∧Hid (q=dAt a l k0 k)∧i=.int .i64 k∧v=.int .i64 q∧Hid (DPart wr T n k k k k0 A L a l F)∧Hid (Touch (DBlk T n A L a l) w wr)) (fun _ i _=>n - (intOf i).toNat)
 case atStart =>
  obtain ⟨⟨F,hF,hs⟩,ha,hl⟩:=HC.out
  exact ⟨0,k0,F,by omega,rfl,rfl,rfl,⟨hF,hs,fun i hi=>absurd hi (Nat.not_lt_zero _),fun i hi=>absurd hi (Nat.not_lt_zero _),fun i hi=>absurd hi (Nat.not_lt_zero _),fun i _ hi=>ha i hi,fun i _ hi=>hl i hi⟩,Touch.refl _ _⟩
 case round =>
  obtain ⟨k,q,F,hk,HQ,rfl,rfl,HD,HW⟩:=hrel
  have hq1:1≤(q:Int):=by have:=HQ.out;have:=dAt_ge (a:=a) (l:=l) (k0:=k0) (n:=k);omega
  have hq2:(q:Int)≤1152921504600000000:=by have:=HQ.out;have:=dAt_le (a:=a) (l:=l) (k0:=k0) (n:=k) (fun i hi=>(HP.out.fit i (by omega)).1) (fun i hi=>(HP.out.fit i (by omega)).2);omega
  by_cases hlt:k<n
  ·have hkk:k*6+6≤n*6:=by omega
   obtain ⟨hak,hlk⟩:=HP.out.fit k hlt
   obtain ⟨⟨pa,ca,hpa,ea⟩,pl,cl,hpl,el⟩:=HD.out.sl k hlt
   have EA:=hide ea
   have EL:=hide el
   clear ea el
   obtain ⟨c0,z0⟩:=HD.out.row.at (k*6) (k*6) (by omega) (by omega)
   go_wp2_with fail
   refine (markText_int (q:Int) _ (by omega) (by omega)).mono ?_
   rintro e w1 ⟨rfl,hB1⟩
   have D1:=hide (HD.out.below hB1 lr hk)
   have W1:=hide (HW.out.below hB1 lr)
   clear hB1 c0 z0
   obtain ⟨c0,z0⟩:=D1.out.row.at (k*6) (k*6) (by omega) (by omega)
   obtain ⟨c1,z1⟩:=D1.out.row.at (k*6+1) (k*6+1) (by omega) (by omega)
   obtain ⟨c2,z2⟩:=D1.out.row.at (k*6+2) (k*6+2) (by omega) (by omega)
   obtain ⟨c3,z3⟩:=D1.out.row.at (k*6+3) (k*6+3) (by omega) (by omega)
   have S1:=hide (((D1.out.setCell HP.out hlt (k*6) 0 (by omega) (by omega) (.string (mkT (q:Int)))).setCell HP.out hlt (k*6+1) 1 (by omega) (by omega) (.int .i64 ((q:Int)+1))).setCell HP.out hlt (k*6+2) 2 (by omega) (by omega) (.int .i64 ((q:Int)+1+1)))
   have X1:=hide (((W1.out.setCell (p:=⟨T,k*6,none⟩) (.inl rfl) (.string (mkT (q:Int)))).setCell (p:=⟨T,k*6+1,none⟩) (.inl rfl) (.int .i64 ((q:Int)+1))).setCell (p:=⟨T,k*6+2,none⟩) (.inl rfl) (.int .i64 ((q:Int)+1+1)))
   go_wp2_with fail
   generalize ((w1.setCell ⟨T,k*6,none⟩ (.string (mkT (q:Int)))).setCell ⟨T,k*6+1,none⟩ (.int .i64 ((q:Int)+1))).setCell ⟨T,k*6+2,none⟩ (.int .i64 ((q:Int)+1+1))=v1 at S1 X1 ⊢
   clear D1 W1 c0 z0 c1 z1 c2 z2 c3 z3
   refine (markText_int ((q:Int)+1+1+1) _ (by omega) (by omega)).mono ?_
   rintro e w2 ⟨rfl,hB2⟩
   have D2:=hide (S1.out.below hB2 lr hk)
   have W2:=hide (X1.out.below hB2 lr)
   clear hB2 S1 X1
   obtain ⟨c3,z3⟩:=D2.out.row.at (k*6+3) (k*6+3) (by omega) (by omega)
   have S2:=hide (D2.out.setCell HP.out hlt (k*6+3) 3 (by omega) (by omega) (.string (mkT ((q:Int)+1+1+1))))
   have X2:=hide (W2.out.setCell (p:=⟨T,k*6+3,none⟩) (.inl rfl) (.string (mkT ((q:Int)+1+1+1))))
   have c4:(w2.setCell ⟨T,k*6+3,none⟩ (.string (mkT ((q:Int)+1+1+1)))).cell? ⟨T,k*6+4,none⟩=some (.slice pa (a k) ca):=by
    have:=(S2.out.row.at (k*6+4) (k*6+4) (by omega) (by omega)).1
    rw [if_neg (by omega),if_neg (by omega),if_neg (by omega),if_neg (by omega),hpa] at this
    exact this
   go_wp2_with fail
   generalize w2.setCell ⟨T,k*6+3,none⟩ (.string (mkT ((q:Int)+1+1+1)))=v2 at S2 X2 c4 ⊢
   clear D2 W2 c3 z3
   first | rw [show (q:Int)+1+1+1+1=((q+4:Nat):Int) by omega] | rw [show (q:Int)+4=((q+4:Nat):Int) by omega]
   refine (markInsS_sl pa (a k) ca (q+4) (A k) _ (by omega) (by omega) (by omega) (by by_cases hz:a k=0;exact .inl hz;exact .inr ⟨EA.out hz,S2.out.act k lr hlt hz⟩)).mono ?_
   rintro e w3 ⟨rfl,hM3,hT3⟩
   have D3:=hide (S2.out.acted HP.out hlt hT3)
   have W3:=hide (X2.out.trans (hT3.mono fun x hx=>.inr ⟨k,hlt,.inl hx⟩))
   have M3:=hide hM3
   clear hM3 hT3 S2 X2 c4
   have c5:w3.cell? ⟨T,k*6+5,none⟩=some (.slice pl (l k) cl):=by
    have:=(D3.out.row.at (k*6+5) (k*6+5) (by omega) (by omega)).1
    rw [if_neg (by omega),if_neg (by omega),if_neg (by omega),if_neg (by omega),hpl] at this
    exact this
   go_wp2_with fail
   refine (markLinkS_sl pl (l k) cl (q+4+a k*3) (L k) _ (by omega) (by omega) (by omega) (by by_cases hz:l k=0;exact .inl hz;exact .inr ⟨EL.out hz,D3.out.lnk k lr hlt hz⟩)).mono ?_
   rintro e w4 ⟨rfl,hM4,hT4⟩
   have D4:=hide (D3.out.linked HP.out hlt hT4 HQ.out M3.out hM4 (by rw [if_neg (by omega),if_neg (by omega),if_neg (by omega)];exact if_pos rfl) (by rw [if_neg (by omega),if_neg (by omega),if_pos rfl]) (by rw [if_neg (by omega),if_pos rfl]) (by rw [if_pos rfl]))
   have W4:=hide (W3.out.trans (hT4.mono fun x hx=>.inr ⟨k,hlt,.inr hx⟩))
   have HE:Hid (q+4+a k*3+l k*4=dAt a l k0 (k+1)):=by show _=dAt a l k0 k+4+a k*3+l k*4;rw [HQ.out]
   clear hM4 hT4 D3 W3 M3 c5 hpa hpl
   go_wp2
   exact ⟨⟨k+1,q+4+a k*3+l k*4,_,by omega,HE.out,by go_num,rfl,D4.out,W4.out⟩,by simp [intOf];omega⟩
  ·have e:k=n:=by omega
   subst e
   have HV:Hid ((q:Int)=((dAt a l k0 k:Nat):Int)):=by show (q:Int)=_;rw [HQ.out]
   go_wp2
   go_ret
   exact ⟨by show Ending.returned (.int .i64 (q:Int))=_;rw [HV.out],⟨⟨F,HD.out.row,fun i hi=>⟨(HD.out.mrk i hi).1,(HD.out.mrk i hi).2.1,(HD.out.mrk i hi).2.2.1,(HD.out.mrk i hi).2.2.2,(HD.out.sl i hi).1,(HD.out.sl i hi).2⟩⟩,HD.out.actM,HD.out.lnkM⟩,HW.out⟩
theorem markAccount_row (T n cap k0:Nat)(A L a l:Nat→Nat)(w:World)(hn:(n:Int)≤1048576)(h1:1≤(k0:Int))(h2:(k0:Int)≤1125899906842624)(hP:DPlan T n A L a l)(hC:DCells w T n A L a l) :
  Calls Tryz.prog 18 #[.agg #[.slice (some ⟨T,0,none⟩) n cap],.int .i64 k0] w fun e w'=>e=.returned (.int .i64 ((dAt a l k0 n:Nat):Int))∧DMarked w' T n A L a l k0∧Touch (DBlk T n A L a l) w w':=by
 have A0:=hide ((Below.refl w.heap.size w).alloc lr (.cells #[.slice (some ⟨T,0,none⟩) n cap] 43))
 have HC:=hide (hC.below A0.out lr)
 have HP:=hide hP
 clear hC hP
 go_enter Tryz.func18,Tryz.ntmps18
 go_wp2_with fail
 refine (markDeedS_row T n cap k0 A L a l _ hn h1 h2 HP.out HC.out).mono ?_
 rintro e w1 ⟨rfl,hM,hT⟩
 have M1:=hide hM
 have T1:=hide ((Touch.of_below A0.out lr).trans hT)
 clear hM hT
 go_wp2
 go_ret
 exact ⟨rfl,M1.out,T1.out⟩
theorem heldLinkS_nil (a:Option Addr)(cap k0:Nat)(w:World):Calls Tryz.prog 106 #[.slice a 0 cap,.int .i64 k0] w fun e w'=>e=.returned (.int .i64 (k0:Int))∧w'=w:=by
 go_enter Tryz.func106,Tryz.ntmps106
 go_wp2
 go_loop [1,5] (fun v i=>v=.int .i64 k0∧i=.int .i64 0) (fun _ _=>0)
 case atStart=>exact ⟨rfl,rfl⟩
 case round =>
  obtain ⟨rfl,rfl⟩:=hrel
  go_wp2
  go_ret
  exact ⟨rfl,rfl⟩
theorem heldLinkS_row (b off n cap k0:Nat)(w:World)(hn:(n:Int)≤1048576)(h1:1≤(k0:Int))(h2:(k0:Int)≤1152921504606846976)(hC:Cells w b off (n*4) (markLink k0)) :
  Calls Tryz.prog 106 #[.slice (some ⟨b,off,none⟩) n cap,.int .i64 k0] w fun e w'=>e=.returned (.int .i64 ((k0+n*4:Nat):Int))∧Below w.heap.size w w':=by
 have HC:=hide hC
 have hb:b<w.heap.size:=hC.1
 clear hC
 go_enter Tryz.func106,Tryz.ntmps106
 go_wp2
 go_loopw [1,5] (fun v i wr=>∃ k q:Nat,k≤n∧Hid (q=k0+k*4)∧i=.int .i64 k∧v=.int .i64 q∧Hid (Below w.heap.size w wr)) (fun _ i _=>n - (intOf i).toNat)
 case atStart=>exact ⟨0,k0,by omega,by show k0=_;omega,rfl,rfl,Below.refl _ _⟩
 case round =>
  obtain ⟨k,q,hk,HQ,rfl,rfl,HB0⟩:=hrel
  have hq1:1≤(q:Int):=by have:=HQ.out;omega
  have hq2:(q:Int)≤1152921504620000000:=by have:=HQ.out;omega
  have hb0:b<wr.heap.size:=Nat.lt_of_lt_of_le hb HB0.out.size
  have H0:=hide (HC.out.below HB0.out hb)
  by_cases hlt:k<n
  ·have hkk:k*4+4≤n*4:=by omega
   have c0:wr.cell? ⟨b,off+k*4,none⟩=some (.string (mkT ((q:Int)))):=by have:=(H0.out.at (off+k*4) (k*4) (by omega) (by omega)).1;rw [markLink_0 HQ.out] at this;exact this
   go_wp2_with fail
   go_region_with (go_at_call 99;refine (markText_int ((q:Int)) _ (by omega) (by omega)).mono ?_;rintro e w1 ⟨rfl,hB⟩;have D1:Hid (Below wr.heap.size wr w1):=⟨hB.os,hB.tape,hB.output,hB.size,hB.block⟩;have HB1:=hide (HB0.out.trans (D1.out.mono HB0.out.size));have H1:=hide (H0.out.below D1.out hb0);have d1_0:=(D1.out.cell (p:=⟨b,off+k*4,none⟩) hb0).trans c0;clear hB D1)
   all_goals
    clear c0 d1_0
    have c1:w1.cell? ⟨b,off+k*4+1,none⟩=some (.bool (decide (((q:Int)+1) % 3=0))):=by have:=(H1.out.at (off+k*4+1) (k*4+1) (by omega) (by omega)).1;rw [markLink_1 HQ.out] at this;exact this
    have c2:w1.cell? ⟨b,off+k*4+2,none⟩=some (.bool (decide (((q:Int)+2) % 3=0))):=by have:=(H1.out.at (off+k*4+2) (k*4+2) (by omega) (by omega)).1;rw [markLink_2 HQ.out] at this;exact this
    have c3:w1.cell? ⟨b,off+k*4+3,none⟩=some (.int .i64 ((q:Int)+3)):=by have:=(H1.out.at (off+k*4+3) (k*4+3) (by omega) (by omega)).1;rw [markLink_3 HQ.out] at this;exact this
    rcases (show ((q:Int)+1) % 3=0∧((q:Int)+2) % 3=1∧((q:Int)+1+1) % 3=1∨((q:Int)+1) % 3=1∧((q:Int)+2) % 3=2∧((q:Int)+1+1) % 3=2∨((q:Int)+1) % 3=2∧((q:Int)+2) % 3=0∧((q:Int)+1+1) % 3=0 by omega) with ⟨m1,m2,m3⟩ | ⟨m1,m2,m3⟩ | ⟨m1,m2,m3⟩
    all_goals
     rw [m1] at c1
     rw [m2] at c2
     simp only [decide_true,show ((1:Int)=0)=False from by decide,show ((2:Int)=0)=False from by decide,decide_false] at c1 c2
     go_wp2
     exact ⟨⟨k+1,q+4,by omega,by show q+4=k0+(k+1)*4;have:=HQ.out;omega,by go_num,by go_num,HB1.out⟩,by simp [intOf];omega⟩
  ·have e:k=n:=by omega
   subst e
   have hv:(q:Int)=((k0+k*4:Nat):Int):=by rw [HQ.out]
   have HV:=hide hv
   clear hv
   go_wp2
   go_ret
   exact ⟨by show Ending.returned (.int .i64 (q:Int))=_;rw [HV.out],HB0.out⟩
theorem heldInsS_sl (p:Option Addr)(n cap k0 b:Nat)(w:World)(hn:(n:Int)≤1048576)(h1:1≤(k0:Int))(h2:(k0:Int)≤1152921504606846976)(h:n=0∨(p=some ⟨b,0,none⟩∧Cells w b 0 (n*3) (markIns k0))) :
  Calls Tryz.prog 105 #[.slice p n cap,.int .i64 k0] w fun e w'=>e=.returned (.int .i64 ((k0+n*3:Nat):Int))∧Below w.heap.size w w':=by
 by_cases hz:n=0
 ·subst hz
  exact (heldInsS_nil p cap k0 w).mono fun e w' ⟨a,b⟩=>⟨by simpa using a,by rw [b];exact Below.refl _ _⟩
 ·obtain ⟨rfl,hG⟩:=h.resolve_left hz
  exact heldInsS_row b 0 n cap k0 w hn h1 h2 hG
theorem heldLinkS_sl (p:Option Addr)(n cap k0 b:Nat)(w:World)(hn:(n:Int)≤1048576)(h1:1≤(k0:Int))(h2:(k0:Int)≤1152921504606846976)(h:n=0∨(p=some ⟨b,0,none⟩∧Cells w b 0 (n*4) (markLink k0))) :
  Calls Tryz.prog 106 #[.slice p n cap,.int .i64 k0] w fun e w'=>e=.returned (.int .i64 ((k0+n*4:Nat):Int))∧Below w.heap.size w w':=by
 by_cases hz:n=0
 ·subst hz
  exact (heldLinkS_nil p cap k0 w).mono fun e w' ⟨a,b⟩=>⟨by simpa using a,by rw [b];exact Below.refl _ _⟩
 ·obtain ⟨rfl,hG⟩:=h.resolve_left hz
  exact heldLinkS_row b 0 n cap k0 w hn h1 h2 hG
theorem heldDeedS_row (T n cap k0:Nat)(A L a l:Nat→Nat)(w:World)(hn:(n:Int)≤1048576)(h1:1≤(k0:Int))(h2:(k0:Int)≤1125899906842624)(hP:DPlan T n A L a l)(hC:DMarked w T n A L a l k0) :
  Calls Tryz.prog 51 #[.slice (some ⟨T,0,none⟩) n cap,.int .i64 k0] w fun e w'=>e=.returned (.int .i64 ((dAt a l k0 n:Nat):Int))∧Below w.heap.size w w':=by
 have HC:=hide hC
 have HP:=hide hP
 clear hC hP
 go_enter Tryz.func51,Tryz.ntmps51
 go_wp2
 go_loopw [1,5] (fun v i wr=>∃ (k q:Nat),k≤n∧Hid (q=dAt a l k0 k)∧i=.int .i64 k∧v=.int .i64 q∧Hid (Below w.heap.size w wr)) (fun _ i _=>n - (intOf i).toNat)
 case atStart=>exact ⟨0,k0,by omega,rfl,rfl,rfl,Below.refl _ _⟩
 case round =>
  obtain ⟨k,q,hk,HQ,rfl,rfl,HB⟩:=hrel
  have hq1:1≤(q:Int):=by have:=HQ.out;have:=dAt_ge (a:=a) (l:=l) (k0:=k0) (n:=k);omega
  have hq2:(q:Int)≤1152921504600000000:=by have:=HQ.out;have:=dAt_le (a:=a) (l:=l) (k0:=k0) (n:=k) (fun i hi=>(HP.out.fit i (by omega)).1) (fun i hi=>(HP.out.fit i (by omega)).2);omega
  by_cases hlt:k<n
  ·have hkk:k*6+6≤n*6:=by omega
   obtain ⟨hak,hlk⟩:=HP.out.fit k hlt
   have M0:=hide (HC.out.below HB.out lr)
   have cs:∀ (W:World),DMarked W T n A L a l k0→T<W.heap.size∧W.cell? ⟨T,k*6,none⟩=some (.string (mkT (q:Int)))∧W.cell? ⟨T,k*6+1,none⟩=some (.int .i64 ((q:Int)+1))∧W.cell? ⟨T,k*6+2,none⟩=some (.int .i64 ((q:Int)+1+1))∧W.cell? ⟨T,k*6+3,none⟩=some (.string (mkT ((q:Int)+1+1+1)))∧(∃ p c,W.cell? ⟨T,k*6+4,none⟩=some (.slice p (a k) c)∧(a k≠0→p=some ⟨A k,0,none⟩))∧∃ p c,W.cell? ⟨T,k*6+5,none⟩=some (.slice p (l k) c)∧(l k≠0→p=some ⟨L k,0,none⟩):=by
    rintro W ⟨⟨F,hF,hM⟩,_,_⟩
    obtain ⟨e0,e1,e2,e3,⟨p4,d4,e4,g4⟩,p5,d5,e5,g5⟩:=hM k hlt
    rw [← HQ.out] at e0 e1 e2 e3
    refine ⟨hF.1,?_,?_,?_,?_,⟨p4,d4,?_,g4⟩,p5,d5,?_,g5⟩
    ·rw [(hF.at (k*6) (k*6) (by omega) (by omega)).1,e0]
    ·rw [(hF.at (k*6+1) (k*6+1) (by omega) (by omega)).1,e1,show ((q+1:Nat):Int)=(q:Int)+1 by omega]
    ·rw [(hF.at (k*6+2) (k*6+2) (by omega) (by omega)).1,e2,show ((q+2:Nat):Int)=(q:Int)+1+1 by omega]
    ·rw [(hF.at (k*6+3) (k*6+3) (by omega) (by omega)).1,e3,show ((q+3:Nat):Int)=(q:Int)+1+1+1 by omega]
    ·rw [(hF.at (k*6+4) (k*6+4) (by omega) (by omega)).1,e4]
    ·rw [(hF.at (k*6+5) (k*6+5) (by omega) (by omega)).1,e5]
   have CS:=hide cs
   clear cs
   obtain ⟨hT0,c0,c1,c2,c3,-,-⟩:=CS.out wr M0.out
   go_wp2_with fail
   go_region_with (go_at_call 99;refine (markText_int ((q:Int)) _ (by omega) (by omega)).mono ?_;rintro e w1 ⟨rfl,hB⟩;have D1:Hid (Below wr.heap.size wr w1):=⟨hB.os,hB.tape,hB.output,hB.size,hB.block⟩;have HB1:=hide (HB.out.trans (D1.out.mono HB.out.size));have d1_0:=(D1.out.cell (p:=⟨T,k*6,none⟩) hT0).trans c0;clear hB D1)
   all_goals
    clear c0 c1 c2 c3 d1_0 hT0
    have M1:=hide (HC.out.below HB1.out lr)
    obtain ⟨hT1,-,c1,c2,c3,-,-⟩:=CS.out w1 M1.out
    have c3':=c3
    go_wp2_with fail
    go_region_with (go_at_call 99;refine (markText_int ((q:Int)+1+1+1) _ (by omega) (by omega)).mono ?_;rintro e w2 ⟨rfl,hB⟩;have D2:Hid (Below w1.heap.size w1 w2):=⟨hB.os,hB.tape,hB.output,hB.size,hB.block⟩;have HB2:=hide (HB1.out.trans (D2.out.mono HB1.out.size));have d1_3:=(D2.out.cell (p:=⟨T,k*6+3,none⟩) hT1).trans c3';clear hB D2)
    all_goals
     clear c1 c2 c3 c3' d1_3 hT1
     have M2:=hide (HC.out.below HB2.out lr)
     obtain ⟨hT2,-,-,-,-,⟨p4,d4,c4,g4⟩,-⟩:=CS.out w2 M2.out
     have G4:=hide g4
     clear g4
     go_wp2_with fail
     first | rw [show (q:Int)+1+1+1+1=((q+4:Nat):Int) by omega] | rw [show (q:Int)+4=((q+4:Nat):Int) by omega]
     refine (heldInsS_sl p4 (a k) d4 (q+4) (A k) _ (by omega) (by omega) (by omega) (by by_cases hz:a k=0;exact .inl hz;exact .inr ⟨G4.out hz,by have:=M2.out.act k hlt hz;rw [← HQ.out] at this;exact this⟩)).mono ?_
     rintro e w3 ⟨rfl,hB3⟩
     have HB3:=hide (HB2.out.trans (hB3.mono HB2.out.size))
     clear hB3 c4 hT2
     have M3:=hide (HC.out.below HB3.out lr)
     obtain ⟨hT3,-,-,-,-,-,p5,d5,c5,g5⟩:=CS.out w3 M3.out
     have G5:=hide g5
     clear g5
     have hp3:¬ ((q+4+a k*3:Nat):Int)<0:=by omega
     go_wp2_with fail
     refine (heldLinkS_sl p5 (l k) d5 (q+4+a k*3) (L k) _ (by omega) (by omega) (by omega) (by by_cases hz:l k=0;exact .inl hz;exact .inr ⟨G5.out hz,by have:=M3.out.lnk k hlt hz;rw [← HQ.out] at this;exact this⟩)).mono ?_
     rintro e w4 ⟨rfl,hB4⟩
     have HB4:=hide (HB3.out.trans (hB4.mono HB3.out.size))
     have HE:Hid (q+4+a k*3+l k*4=dAt a l k0 (k+1)):=by show _=dAt a l k0 k+4+a k*3+l k*4;rw [HQ.out]
     clear hB4 c5 hT3
     have hp4:¬ ((q+4+a k*3+l k*4:Nat):Int)<0:=by omega
     go_wp2
     exact ⟨⟨k+1,q+4+a k*3+l k*4,by omega,HE.out,by go_num,rfl,HB4.out⟩,by simp [intOf];omega⟩
  ·have e:k=n:=by omega
   subst e
   have HV:Hid ((q:Int)=((dAt a l k0 k:Nat):Int)):=by show (q:Int)=_;rw [HQ.out]
   go_wp2
   go_ret
   exact ⟨by show Ending.returned (.int .i64 (q:Int))=_;rw [HV.out],HB.out⟩
theorem heldAccount_row (T n cap k0:Nat)(A L a l:Nat→Nat)(w:World)(hn:(n:Int)≤1048576)(h1:1≤(k0:Int))(h2:(k0:Int)≤1125899906842624)(hP:DPlan T n A L a l)(hC:DMarked w T n A L a l k0) :
  Calls Tryz.prog 19 #[.agg #[.slice (some ⟨T,0,none⟩) n cap],.int .i64 k0] w fun e w'=>e=.returned (.int .i64 ((dAt a l k0 n:Nat):Int))∧Below w.heap.size w w':=by
 have A0:=hide ((Below.refl w.heap.size w).alloc lr (.cells #[.slice (some ⟨T,0,none⟩) n cap] 43))
 have HC:=hide (hC.below A0.out lr)
 have HP:=hide hP
 clear hC hP
 go_enter Tryz.func19,Tryz.ntmps19
 go_wp2_with fail
 refine (heldDeedS_row T n cap k0 A L a l _ hn h1 h2 HP.out HC.out).mono ?_
 rintro e w1 ⟨rfl,hB⟩
 have B1:=hide (A0.out.trans (hB.mono A0.out.size))
 have hp3:¬ ((dAt a l k0 n:Nat):Int)<0:=by omega
 clear hB
 go_wp2
 go_ret
 exact ⟨rfl,B1.out⟩
theorem heldDeedS_nil (a:Option Addr)(cap k0:Nat)(w:World):Calls Tryz.prog 51 #[.slice a 0 cap,.int .i64 k0] w fun e w'=>e=.returned (.int .i64 (k0:Int))∧w'=w:=by
 go_enter Tryz.func51,Tryz.ntmps51
 go_wp2
 go_loop [1,5] (fun v i=>v=.int .i64 k0∧i=.int .i64 0) (fun _ _=>0)
 case atStart=>exact ⟨rfl,rfl⟩
 case round =>
  obtain ⟨rfl,rfl⟩:=hrel
  go_wp2
  go_ret
  exact ⟨rfl,rfl⟩
theorem markDeedS_nil (a:Option Addr)(cap k0:Nat)(w:World):Calls Tryz.prog 50 #[.slice a 0 cap,.int .i64 k0] w fun e w'=>e=.returned (.int .i64 (k0:Int))∧w'=w:=by
 go_enter Tryz.func50,Tryz.ntmps50
 go_wp2
 go_loop [1,5] (fun v i=>v=.int .i64 k0∧i=.int .i64 0) (fun _ _=>0)
 case atStart=>exact ⟨rfl,rfl⟩
 case round =>
  obtain ⟨rfl,rfl⟩:=hrel
  go_wp2
  go_ret
  exact ⟨rfl,rfl⟩
theorem markAccount_nil (a:Option Addr)(cap k0:Nat)(w:World):Calls Tryz.prog 18 #[.agg #[.slice a 0 cap],.int .i64 k0] w fun e w'=>e=.returned (.int .i64 (k0:Int))∧Below w.heap.size w w':=by
 have A0:=hide ((Below.refl w.heap.size w).alloc lr (.cells #[.slice a 0 cap] 43))
 go_enter Tryz.func18,Tryz.ntmps18
 go_wp2_with fail
 refine (markDeedS_nil a cap k0 _).mono ?_
 rintro e w1 ⟨rfl,rfl⟩
 go_wp2
 go_ret
 exact ⟨rfl,A0.out⟩
theorem heldAccount_nil (a:Option Addr)(cap k0:Nat)(w:World):Calls Tryz.prog 19 #[.agg #[.slice a 0 cap],.int .i64 k0] w fun e w'=>e=.returned (.int .i64 (k0:Int))∧Below w.heap.size w w':=by
 have A0:=hide ((Below.refl w.heap.size w).alloc lr (.cells #[.slice a 0 cap] 43))
 go_enter Tryz.func19,Tryz.ntmps19
 go_wp2_with fail
 refine (heldDeedS_nil a cap k0 _).mono ?_
 rintro e w1 ⟨rfl,rfl⟩
 have hp3:¬ (k0:Int)<0:=by omega
 go_wp2
 go_ret
 exact ⟨rfl,A0.out⟩
end Go.Proofs.YtfnbojfnelfnkaaGreatDoor.Vp
