import Derived.Test.YtfnbojfnelfnkaaGreatDoorZZ
import Derived.Test.YtfnbojfnelfnkaaGreatDoorYB
import Derived.Test.YtfnbojfnelfnkaaGreatDoorZA
import Derived.Test.YtfnbojfnelfnkaaGreatDoorZB
import Derived.Test.YtfnbojfnelfnkaaGreatDoorZL
import Derived.Test.YtfnbojfnelfnkaaGreatDoorZW
import Derived.Test.YtfnbojfnelfnkaaGreatDoorZP
import Derived.Test.YtfnbojfnelfnkaaGreatDoorZS
import Derived.Test.YtfnbojfnelfnkaaGreatDoorZF
set_option maxRecDepth 100000
set_option maxHeartbeats 4000000
namespace Go.Proofs.YtfnbojfnelfnkaaGreatDoor.Vp
open Go.RowKit
structure KS (B:Nat)(X:Nat→Prop)(w w':World):Prop where
 below:Below B w w'
 blk:∀ i cs t fz,w.heap[i]?=some (.cells cs t fz)→t≠9→t≠146→t≠68→¬ X i→w'.heap[i]?=w.heap[i]?
theorem KS.refl (B:Nat)(X:Nat→Prop)(w:World):KS B X w w:=⟨Below.refl _ _,fun _ _ _ _ _ _ _ _ _=>rfl⟩
theorem KS.trans {B:Nat}{X Y:Nat→Prop}{w w' w'':World}(h:KS B X w w')(k:KS B Y w' w'')(hXY:∀ i,i<w.heap.size→Y i→X i):KS B X w w'' :=
 ⟨h.below.trans k.below,fun i cs t fz hi h1 h2 h3 hX=>by
  have e:=h.blk i cs t fz hi h1 h2 h3 hX
  rw [← e]
  exact k.blk i cs t fz (e.trans hi) h1 h2 h3 fun hy=>hX (hXY i (heap_lt hi) hy)⟩
theorem KS.to {B:Nat}{w w' w'':World}{X:Nat→Prop}(h:KS B X w w')(k:KS B XN w' w''):KS B X w w'':=h.trans k fun _ _ h=>h.elim
theorem KS.weak {B:Nat}{w w':World}{X:Nat→Prop}(h:KS B XN w w'):KS B X w w':=⟨h.below,fun i cs t fz hi h1 h2 h3 _=>h.blk i cs t fz hi h1 h2 h3 fun h=>h.elim⟩
theorem KS.of_below {B C:Nat}{X:Nat→Prop}{w w':World}(h:Below C w w')(hC:w.heap.size≤C)(hB:B≤w.heap.size):KS B X w w' :=
 ⟨h.mono (Nat.le_trans hB hC),fun i _ _ _ hi _ _ _ _=>h.block i (Nat.lt_of_lt_of_le (heap_lt hi) hC)⟩
theorem KS.of_only {B b:Nat}{X:Nat→Prop}{w w':World}(h:Only b w w')(hX:X b)(hB:B≤w.heap.size)(hb:B≤b):KS B X w w' :=
 ⟨h.below hb hB,fun i _ _ _ hi _ _ _ hx=>h.block i (heap_lt hi) fun e=>hx (e ▸ hX)⟩
theorem KS.of_grown {B:Nat}{X:Nat→Prop}{row:Option Nat}{w w':World}(h:w.grownBy w' row)(hB:B≤w.heap.size)(hr:∀ j,row=some j→B≤j∧(X j∨∀ cs t fz,w.heap[j]?=some (.cells cs t fz)→t=9∨t=146∨t=68)):KS B X w w':=by
 refine ⟨⟨h.os,h.tape,h.output,h.size,fun k hk=>h.block k (Nat.lt_of_lt_of_le hk hB) fun e=>?_⟩,fun i cs t fz hi h1 h2 h3 hX=>h.block i (heap_lt hi) fun e=>?_⟩
 ·have:=(hr k e.symm).1
  omega
 ·rcases (hr i e.symm).2 with hx | hx
  ·exact hX hx
  ·rcases hx cs t fz hi with e | e | e
   ·exact h1 e
   ·exact h2 e
   ·exact h3 e
theorem KS.setCell {B:Nat}{X:Nat→Prop}(w:World){b j:Nat}(hb:B≤b)(hx:X b∨∀ cs t fz,w.heap[b]?=some (.cells cs t fz)→t=9∨t=146∨t=68)(v:Value):KS B X w (w.setCell ⟨b,j,none⟩ v):=by
 refine ⟨(Below.refl B w).setCell hb v,fun i cs t fz hi h1 h2 h3 hX=>?_⟩
 refine Below.heap_setCell _ _ _ _ fun e=>?_
 simp at e
 subst e
 rcases hx with hx | hx
 ·exact hX hx
 ·rcases hx cs t fz hi with e | e | e
  ·exact h1 e
  ·exact h2 e
  ·exact h3 e
def ShBox (w:World)(hb:Nat)(s0 s1 md or st:Value)(sc:Int)(sx:ByteArray)(ch:Value)(dead:Bool):Prop:=w.heap[hb]?=some (.cells #[s0,s1,md,or,st,.int .i64 sc,.string sx,ch,.bool dead] 68 (0,0))
theorem ShBox.facts {w:World}{hb:Nat}{s0 s1 md or st ch:Value}{sc:Int}{sx:ByteArray}{dead:Bool}(h:ShBox w hb s0 s1 md or st sc sx ch dead):hb<w.heap.size∧w.cell? ⟨hb,0,none⟩=some s0∧w.cell? ⟨hb,1,none⟩=some s1∧w.cell? ⟨hb,2,none⟩=some md∧w.cell? ⟨hb,3,none⟩=some or∧w.cell? ⟨hb,4,none⟩=some st∧w.cell? ⟨hb,5,none⟩=some (.int .i64 sc)∧w.cell? ⟨hb,6,none⟩=some (.string sx)∧w.cell? ⟨hb,7,none⟩=some ch∧w.cell? ⟨hb,8,none⟩=some (.bool dead)∧∀ j,w.frozen? ⟨hb,j,none⟩=false:=by
 unfold ShBox at h
 refine ⟨heap_lt h,?_,?_,?_,?_,?_,?_,?_,?_,?_,fun j=>?_⟩
 all_goals simp [World.cell?,World.frozen?,h]
theorem ShBox.blk {w w':World}{hb:Nat}{s0 s1 md or st ch:Value}{sc:Int}{sx:ByteArray}{dead:Bool}(h:ShBox w hb s0 s1 md or st sc sx ch dead)(hb2:w'.heap[hb]?=w.heap[hb]?):ShBox w' hb s0 s1 md or st sc sx ch dead:=hb2.trans h
structure SM where
 name:ByteArray
 code:Int
 text:ByteArray
 seen:List Lk
 sv:Value
 done:Bool
def smV (m:SM):List Value:=[.string m.name,.int .i64 m.code,.string m.text,.slice none 0 0,m.sv,.bool m.done]
def seenV (ls:List Lk):List Value:=ls.flatMap fun l=>[.string l.name,.bool l.ask,.bool l.has]
def fI (L:List SM)(t:ByteArray):Option Nat:=L.findIdx? fun m=>m.name.toList == t.toList
structure SRel (L:List SM)(making:List ByteArray)(made:List Ent):Prop where
 nod:L.Pairwise fun m m'=>m.name≠m'.name
 len:L.length=made.length+making.length
 got:∀ x∈made,∃ m∈L,m.name=x.name∧m.done=true∧m.code=(resE x).code∧m.text=(resE x).text∧m.seen=x.looks
 mkg:∀ t∈making,∃ m∈L,m.name=t∧m.done=false
 all:∀ m∈L,(∃ x∈made,x.name=m.name)∨m.name∈making
structure SI (w0:World)(hb:Nat)(s0 s1:Value)(w:World)(making:List ByteArray)(made:List Ent)(L:List SM)(md or st:Value):Prop where
 bel:Below w0.heap.size w0 w
 hbB:w0.heap.size≤hb
 box:ShBox w hb s0 s1 md or st 0 ⟨#[]⟩ (.slice none 0 0) false
 rmd:w.ownsRow w0.heap.size 146 6 md L.length (L.flatMap smV)
 ror:w.ownsRow w0.heap.size 9 1 or made.length (strV (made.map (·.name)))
 rst:w.ownsRow w0.heap.size 9 1 st making.length (strV making)
 apart:∀ k,or.ownBlock=some k→st.ownBlock≠some k
 seen:∀ m∈L,m.done=true→w.ownsRow w0.heap.size 149 3 m.sv m.seen.length (seenV m.seen)
section
variable {w0 w w':World}{hb:Nat}{s0 s1 md or st:Value}{making:List ByteArray}{made:List Ent}{L:List SM}
theorem SI.lt (h:SI w0 hb s0 s1 w making made L md or st):w0.heap.size≤w.heap.size:=h.bel.size
theorem SI.below {C:Nat}(h:SI w0 hb s0 s1 w making made L md or st)(hb2:Below C w w')(hC:w.heap.size≤C):SI w0 hb s0 s1 w' making made L md or st :=
 ⟨h.bel.trans (hb2.mono (Nat.le_trans h.lt hC)),h.hbB,h.box.blk (hb2.block _ (Nat.lt_of_lt_of_le (heap_lt h.box) hC)),own_below h.rmd hb2 hC,own_below h.ror hb2 hC,own_below h.rst hb2 hC,h.apart,fun m hm hd=>own_below (h.seen m hm hd) hb2 hC⟩
end
def idxI:Option Nat→Int
 | some i=>(i:Int)
 | none=>-1
theorem isIn_atI2 (g:Nat→ByteArray)(n:Nat)(t:ByteArray):isIn g n t=(atI g n t).isSome:=by
 unfold isIn atI
 rw [Bool.eq_iff_iff,List.find?_isSome,List.any_eq_true]
theorem atI_no {g:Nat→ByteArray}{n:Nat}{t:ByteArray}(h:isIn g n t=false):atI g n t=none:=by
 rw [isIn_atI2] at h
 exact Option.isNone_iff_eq_none.1 (by simpa using h)
theorem atI_first {g:Nat→ByteArray}{n k:Nat}{t:ByteArray}(hk:k<n)(h1:((g k).toList == t.toList)=true)(h2:isIn g k t=false):atI g n t=some k:=by
 unfold atI
 rw [List.find?_range_eq_some]
 refine ⟨h1,List.mem_range.2 hk,fun j hj=>?_⟩
 cases e:((g j).toList == t.toList) with
 | false=>rfl
 | true =>
  rw [isIn_true hj e] at h2
  cases h2
theorem l2Source_atrow (b off n0 c0:Nat)(a1:Option Addr)(n1 c1:Nat)(f:Nat→Source)(t:ByteArray)(w:World)(hn:(n0:Int)≤1048576)(hv:RowSource w b off n0 f) :
  Calls Tryz.prog 86 #[.agg #[.slice (some ⟨b,off,none⟩) n0 c0,.slice a1 n1 c1],.string t] w fun e w'=>e=.returned (.int .i64 (idxI (atI (nm0 f) n0 t)))∧Below w.heap.size w w':=by
 have A0:=hide ((Below.refl w.heap.size w).alloc lr (.cells #[.slice (some ⟨b,off,none⟩) n0 c0,.slice a1 n1 c1] 34))
 have V1:=hide (hv.below A0.out lr)
 have k1:(w.alloc (.cells #[.slice (some ⟨b,off,none⟩) n0 c0,.slice a1 n1 c1] 34)).cell? ⟨w.heap.size,0,none⟩=some (.slice (some ⟨b,off,none⟩) n0 c0):=by simp
 clear hv
 obtain ⟨R,hR⟩:∃ R,R=idxI (atI (nm0 f) n0 t):=⟨_,rfl⟩
 rw [← hR]
 have HR:=hide hR
 clear hR
 go_enter Tryz.func86,Tryz.ntmps86
 go_wp2
 generalize w.alloc (.cells #[.slice (some ⟨b,off,none⟩) n0 c0,.slice a1 n1 c1] 34)=W at A0 V1 k1 ⊢
 go_loop [5] (fun i=>∃ k:Nat,k≤n0∧i=.int .i64 k∧Hid (isIn (nm0 f) k t=false)) (fun i=>n0 - (intOf i).toNat)
 case atStart=>exact ⟨0,by omega,rfl,rfl⟩
 case round =>
  obtain ⟨k,hk,rfl,HK⟩:=hrel
  by_cases hlt:k<n0
  ·obtain ⟨d0,d1⟩:=V1.out.2 k hlt
   cases hb:((f k).name.toList == t.toList) with
   | true =>
    have HB:=hide hb
    go_wp2
    go_ret
    exact ⟨by rw [HR.out,atI_first hlt HB.out HK.out];rfl,A0.out⟩
   | false =>
    have HB:=hide hb
    go_wp2
    exact ⟨⟨k+1,by omega,by go_num,by show isIn (nm0 f) (k+1) t=false;rw [isIn_succ,HK.out];exact HB.out⟩,by simp [intOf];omega⟩
  ·have e:k=n0:=by omega
   subst e
   go_wp2
   go_ret
   exact ⟨by rw [HR.out,atI_no HK.out];rfl,A0.out⟩
theorem l2Source_atnil (a0:Option Addr)(c0:Nat)(a1:Option Addr)(n1 c1:Nat)(t:ByteArray)(w:World) :
  Calls Tryz.prog 86 #[.agg #[.slice a0 0 c0,.slice a1 n1 c1],.string t] w fun e w'=>e=.returned (.int .i64 (-1))∧Below w.heap.size w w':=by
 have A0:=hide ((Below.refl w.heap.size w).alloc lr (.cells #[.slice a0 0 c0,.slice a1 n1 c1] 34))
 go_enter Tryz.func86,Tryz.ntmps86
 go_wp2
 go_loop [5] (fun i=>i=.int .i64 0) (fun _=>0)
 case atStart=>rfl
 case round =>
  subst hrel
  go_wp2
  go_ret
  exact ⟨rfl,A0.out⟩
theorem l2Source_at (a0:Option Addr)(n0 c0:Nat)(a1:Option Addr)(n1 c1:Nat)(f:Nat→Source)(t:ByteArray)(w:World)(hn:(n0:Int)≤1048576)(hv:SlSource w a0 n0 f) :
  Calls Tryz.prog 86 #[.agg #[.slice a0 n0 c0,.slice a1 n1 c1],.string t] w fun e w'=>e=.returned (.int .i64 (idxI (atI (nm0 f) n0 t)))∧Below w.heap.size w w':=by
 rcases hv with rfl | ⟨b,off,rfl,hr⟩
 ·exact l2Source_atnil a0 c0 a1 n1 c1 t w
 ·exact l2Source_atrow b off n0 c0 a1 n1 c1 f t w hn hr
theorem l2Target_atrow (a0:Option Addr)(n0 c0 b off n1 c1:Nat)(f:Nat→Target)(t:ByteArray)(w:World)(hn:(n1:Int)≤1048576)(hv:RowTarget w b off n1 f) :
  Calls Tryz.prog 87 #[.agg #[.slice a0 n0 c0,.slice (some ⟨b,off,none⟩) n1 c1],.string t] w fun e w'=>e=.returned (.int .i64 (idxI (atI (nm1 f) n1 t)))∧Below w.heap.size w w':=by
 have A0:=hide ((Below.refl w.heap.size w).alloc lr (.cells #[.slice a0 n0 c0,.slice (some ⟨b,off,none⟩) n1 c1] 34))
 have V1:=hide (hv.below A0.out lr)
 have k1:(w.alloc (.cells #[.slice a0 n0 c0,.slice (some ⟨b,off,none⟩) n1 c1] 34)).cell? ⟨w.heap.size,1,none⟩=some (.slice (some ⟨b,off,none⟩) n1 c1):=by simp
 clear hv
 obtain ⟨R,hR⟩:∃ R,R=idxI (atI (nm1 f) n1 t):=⟨_,rfl⟩
 rw [← hR]
 have HR:=hide hR
 clear hR
 go_enter Tryz.func87,Tryz.ntmps87
 go_wp2
 generalize w.alloc (.cells #[.slice a0 n0 c0,.slice (some ⟨b,off,none⟩) n1 c1] 34)=W at A0 V1 k1 ⊢
 go_loop [5] (fun i=>∃ k:Nat,k≤n1∧i=.int .i64 k∧Hid (isIn (nm1 f) k t=false)) (fun i=>n1 - (intOf i).toNat)
 case atStart=>exact ⟨0,by omega,rfl,rfl⟩
 case round =>
  obtain ⟨k,hk,rfl,HK⟩:=hrel
  by_cases hlt:k<n1
  ·obtain ⟨d0,ka,kc,d1,_⟩:=V1.out.2 k hlt
   cases hb:((f k).name.toList == t.toList) with
   | true =>
    have HB:=hide hb
    go_wp2
    go_ret
    exact ⟨by rw [HR.out,atI_first hlt HB.out HK.out];rfl,A0.out⟩
   | false =>
    have HB:=hide hb
    go_wp2
    exact ⟨⟨k+1,by omega,by go_num,by show isIn (nm1 f) (k+1) t=false;rw [isIn_succ,HK.out];exact HB.out⟩,by simp [intOf];omega⟩
  ·have e:k=n1:=by omega
   subst e
   go_wp2
   go_ret
   exact ⟨by rw [HR.out,atI_no HK.out];rfl,A0.out⟩
theorem l2Target_atnil (a0:Option Addr)(n0 c0:Nat)(a1:Option Addr)(c1:Nat)(t:ByteArray)(w:World) :
  Calls Tryz.prog 87 #[.agg #[.slice a0 n0 c0,.slice a1 0 c1],.string t] w fun e w'=>e=.returned (.int .i64 (-1))∧Below w.heap.size w w':=by
 have A0:=hide ((Below.refl w.heap.size w).alloc lr (.cells #[.slice a0 n0 c0,.slice a1 0 c1] 34))
 go_enter Tryz.func87,Tryz.ntmps87
 go_wp2
 go_loop [5] (fun i=>i=.int .i64 0) (fun _=>0)
 case atStart=>rfl
 case round =>
  subst hrel
  go_wp2
  go_ret
  exact ⟨rfl,A0.out⟩
theorem l2Target_at (a0:Option Addr)(n0 c0:Nat)(a1:Option Addr)(n1 c1:Nat)(f:Nat→Target)(t:ByteArray)(w:World)(hn:(n1:Int)≤1048576)(hv:SlTarget w a1 n1 f) :
  Calls Tryz.prog 87 #[.agg #[.slice a0 n0 c0,.slice a1 n1 c1],.string t] w fun e w'=>e=.returned (.int .i64 (idxI (atI (nm1 f) n1 t)))∧Below w.heap.size w w':=by
 rcases hv with rfl | ⟨b,off,rfl,hr⟩
 ·exact l2Target_atnil a0 n0 c0 a1 c1 t w
 ·exact l2Target_atrow a0 n0 c0 b off n1 c1 f t w hn hr
theorem smV_len (m:SM):(smV m).length=6:=rfl
theorem sm_cell {w:World}{base g cap:Nat}{L:List SM}(h:w.ownsRow base 146 6 (.slice (some ⟨g,0,none⟩) L.length cap) L.length (L.flatMap smV)){i:Nat}{m:SM}(hm:L[i]?=some m)(j:Nat)(hj:j<6){u:Value}(hu:(smV m)[j]?=some u):w.cell? ⟨g,i*6+j,none⟩=some u:=by
 have h1:=h.cells (g:=g) rfl (i*6+j) u (by rw [flat_at smV 6 smV_len L i j hj m hm];exact hu)
 rw [addr_add,Nat.zero_add] at h1
 exact h1
theorem fI_first {L:List SM}{k:Nat}{t:ByteArray}{m:SM}(hm:L[k]?=some m)(h1:(m.name.toList == t.toList)=true)(h2:∀ (j:Nat) (m:SM),j<k→L[j]?=some m→(m.name.toList == t.toList)=false):fI L t=some k:=by
 have hk:=(List.getElem?_eq_some_iff.1 hm).1
 have he:=(List.getElem?_eq_some_iff.1 hm).2
 unfold fI
 rw [List.findIdx?_eq_some_iff_getElem]
 refine ⟨hk,by rw [he];exact h1,fun j hj=>?_⟩
 rw [Bool.not_eq_true]
 exact h2 j _ hj (List.getElem?_eq_getElem (by omega))
theorem fI_none {L:List SM}{t:ByteArray}(h2:∀ (j:Nat) (m:SM),j<L.length→L[j]?=some m→(m.name.toList == t.toList)=false):fI L t=none:=by
 unfold fI
 rw [List.findIdx?_eq_none_iff]
 intro m hm
 obtain ⟨j,hj⟩:=List.getElem?_of_mem hm
 exact h2 j m (List.getElem?_eq_some_iff.1 hj).1 hj
section
variable {w0:World}{hb:Nat}{s0 s1 md or st:Value}{making:List ByteArray}{made:List Ent}{L:List SM}
theorem find_box (w:World)(t:ByteArray)(base:Nat)(c2:w.cell? ⟨hb,2,none⟩=some md)(hrm:w.ownsRow base 146 6 md L.length (L.flatMap smV))(hL:L.length≤100000) :
  Calls Tryz.prog 101 #[.pointer (some ⟨hb,0,none⟩),.string t] w fun e w'=>e=.returned (.int .i64 (idxI (fI L t)))∧w'=w:=by
 obtain ⟨R,hR⟩:∃ R,R=idxI (fI L t):=⟨_,rfl⟩
 rw [← hR]
 have HR:=hide hR
 have HRM:=hide hrm
 obtain ⟨a,c,rfl⟩:∃ a c,md=.slice a L.length c:=by
  obtain ⟨_,⟨rfl,e⟩ | ⟨g,cap,cur,rfl,_⟩⟩:=hrm
  ·exact ⟨none,0,by rw [e]⟩
  ·exact ⟨_,_,rfl⟩
 obtain ⟨n,hn⟩:∃ n,n=L.length:=⟨_,rfl⟩
 have HN:=hide hn
 rw [← hn] at c2 hL
 clear hrm hR hn
 go_enter Tryz.func101,Tryz.ntmps101
 go_wp2
 go_loop [5] (fun i=>∃ k:Nat,k≤n∧i=.int .i64 k∧Hid (∀ (j:Nat) (m:SM),j<k→L[j]?=some m→(m.name.toList == t.toList)=false)) (fun i=>n - (intOf i).toNat)
 case atStart=>exact ⟨0,by omega,rfl,fun j m hj=>absurd hj (Nat.not_lt_zero _)⟩
 case round =>
  obtain ⟨k,hk,rfl,HK⟩:=hrel
  by_cases hlt:k<n
  ·obtain ⟨m,hm⟩:∃ m,L[k]?=some m:=⟨_,List.getElem?_eq_getElem (by have:=HN.out;omega)⟩
   obtain ⟨g,cap,cur,e,-⟩:=HRM.out.2.resolve_left (fun h=>by have:=HN.out;omega)
   simp only [Value.slice.injEq,true_and] at e
   obtain ⟨rfl,rfl⟩:=e
   have d0:w.cell? ⟨g,k*6,none⟩=some (.string m.name):=sm_cell HRM.out hm 0 (by omega) rfl
   have HM:=hide hm
   have hI:(k:Int)<(n:Int):=by omega
   clear hm
   cases hb2:(m.name.toList == t.toList) with
   | true =>
    have HB:=hide hb2
    go_wp2
    go_ret
    exact ⟨by rw [HR.out,fI_first HM.out HB.out HK.out];rfl,rfl⟩
   | false =>
    have HB:=hide hb2
    go_wp2
    refine ⟨⟨k+1,by omega,by go_num,fun j m2 hj hm2=>?_⟩,by simp [intOf];omega⟩
    by_cases e:j=k
    ·subst e;rw [HM.out] at hm2;cases hm2;exact HB.out
    ·exact HK.out j m2 (by omega) hm2
  ·have e:k=n:=by omega
   subst e
   go_wp2
   go_ret
   exact ⟨by rw [HR.out,fI_none (fun j m hj hm=>HK.out j m (by have:=HN.out;omega) hm)];rfl,rfl⟩
theorem find_any (w:World)(t:ByteArray)(h:SI w0 hb s0 s1 w making made L md or st)(hL:L.length≤100000) :
  Calls Tryz.prog 101 #[.pointer (some ⟨hb,0,none⟩),.string t] w fun e w'=>e=.returned (.int .i64 (idxI (fI L t)))∧w'=w:=by
 obtain ⟨-,-,-,c2,-⟩:=h.box.facts
 exact find_box w t w0.heap.size c2 h.rmd hL
end
structure SCtx (w0:World)(S:Spc)(a0:Option Addr)(a1:Option Addr):Prop where
 src:SlSource w0 a0 S.n0 S.f0
 tgt:SlTarget w0 a1 S.n1 S.f1
 ok:SpcOk S
def DeadAt (w0:World)(hb:Nat)(w':World)(r:ResL)(ch:Value):Prop:=∃ s0 s1 md or st,ShBox w' hb s0 s1 md or st r.code r.text ch true∧w'.ownsRow w0.heap.size 9 1 ch r.chain.length (strV r.chain)
structure LExt (n:Nat)(L L':List SM):Prop where
 nam:∀ (i:Nat) (m:SM),L[i]?=some m→∃ m':SM,L'[i]?=some m'∧m'.name=m.name
 sn:∀ m∈L',m.done=true→(∃ m0∈L,m0.done=true∧m0.sv=m.sv)∨∀ k,m.sv.ownBlock=some k→n≤k
theorem LExt.refl (n:Nat)(L:List SM):LExt n L L:=⟨fun _ m h=>⟨m,h,rfl⟩,fun m hm hd=>.inl ⟨m,hm,hd,rfl⟩⟩
theorem LExt.trans {n n':Nat}{L L' L'':List SM}(h:LExt n L L')(k:LExt n' L' L'')(hn:n≤n'):LExt n L L'':=by
 refine ⟨fun i m hm=>?_,fun m hm hd=>?_⟩
 ·obtain ⟨m1,h1,e1⟩:=h.nam i m hm
  obtain ⟨m2,h2,e2⟩:=k.nam i m1 h1
  exact ⟨m2,h2,e2.trans e1⟩
 ·rcases k.sn m hm hd with ⟨m0,h0,hd0,e⟩ | h1
  ·rcases h.sn m0 h0 hd0 with ⟨m1,h1,hd1,e1⟩ | h1
   ·exact .inl ⟨m1,h1,hd1,e1.trans e⟩
   ·exact .inr fun k hk=>h1 k (by rw [e];exact hk)
  ·exact .inr fun k hk=>Nat.le_trans hn (h1 k hk)
theorem LExt.mono {n n':Nat}{L L':List SM}(h:LExt n L L')(hn:n'≤n):LExt n' L L':=⟨h.nam,fun m hm hd=>(h.sn m hm hd).imp id fun h k hk=>Nat.le_trans hn (h k hk)⟩
def stopC (c:List ByteArray):ResL:=⟨6,⟨#[]⟩,c⟩
def stopD (d:ByteArray):ResL:=⟨7,d,[]⟩
def resV (r:ResL)(ch:Value):Value:=.agg #[.int .i64 r.code,.string r.text,ch]
def MakePost (w0:World)(hb:Nat)(s0 s1:Value)(making:List ByteArray)(L:List SM)(w:World)(e:Ending)(w':World):Out Ent→Prop
 | .inl (made',x)=>∃ L' md' or' st',e=.returned (.agg #[.int .i64 (resE x).code,.string (resE x).text,.slice none 0 0])∧SI w0 hb s0 s1 w' making made' L' md' or' st'∧SRel L' making made'∧LExt w.heap.size L L'∧KS w0.heap.size XN w w'
 | .inr (.inl c)=>∃ a k,e=.returned (resV (stopC c) (.slice a c.length k))∧DeadAt w0 hb w' (stopC c) (.slice a c.length k)∧KS w0.heap.size XN w w'
 | .inr (.inr d)=>e=.returned (resV (stopD d) (.slice none 0 0))∧DeadAt w0 hb w' (stopD d) (.slice none 0 0)∧KS w0.heap.size XN w w'
def roomS (S:Spc)(making:List ByteArray)(made:List Ent)(k:Nat):Prop:=made.length+201*leftN S making made+k≤50000
def MT (S:Spc)(making:List ByteArray):Prop:=∀ t∈making,(atI (nm1 S.f1) S.n1 t).isSome=true
def MakeOk (w0:World)(S:Spc)(hb:Nat)(s0 s1:Value)(n:Nat):Prop:=∀ making made L md or st w nm,making.length+n=60→SI w0 hb s0 s1 w making made L md or st→SRel L making made→PG S making made→roomS S making made 1→MT S making→nameOk nm=true →
 Calls Tryz.prog 90 #[.pointer (some ⟨hb,0,none⟩),.string nm] w fun e w'=>MakePost w0 hb s0 s1 making L w e w' (liesP S n making made nm)
theorem infoS2 {e:TypeId}{z:Value}{a b:Nat}(h:(Tryz.prog.info? e).map (fun i=>(i.zero,i.size,i.bytes))=some (some z,a,b)):∃ i,Tryz.prog.info? e=some i∧i.zero=some z∧i.size=a∧i.bytes=b:=by
 cases hi:Tryz.prog.info? e with
 | none=>rw [hi] at h;cases h
 | some i =>
  rw [hi] at h
  simp only [Option.map_some,Option.some.injEq,Prod.mk.injEq] at h
  exact ⟨i,rfl,h⟩
theorem infoStrS:(Tryz.prog.info? 9).map (fun i=>(i.zero,i.size,i.bytes))=some (some (.string ⟨#[]⟩),1,16):=by kernel_rfl
theorem infoReplyS:(Tryz.prog.info? 211).map (fun i=>(i.zero,i.size,i.bytes))=some (some (.agg #[.bool false,.int .i64 0,.string ⟨#[]⟩]),3,32):=by kernel_rfl
theorem infoSeen:(Tryz.prog.info? 149).map (fun i=>(i.zero,i.size,i.bytes))=some (some (.agg #[.string ⟨#[]⟩,.bool false,.bool false]),3,24):=by kernel_rfl
theorem infoMade:(Tryz.prog.info? 146).map (fun i=>(i.zero,i.size,i.bytes))=some (some (.agg #[.string ⟨#[]⟩,.int .i64 0,.string ⟨#[]⟩,.slice none 0 0,.slice none 0 0,.bool false]),6,96):=by kernel_rfl
def repV (ys:List Reply):List Value:=ys.flatMap fun r=>[.bool r.has,.int .i64 r.code,.string r.text]
theorem repV_add (ys:List Reply)(r:Reply):repV (ys++[r])=repV ys++[.bool r.has,.int .i64 r.code,.string r.text]:=by simp [repV]
theorem seenV_add (ls:List Lk)(l:Lk):seenV (ls++[l])=seenV ls++[.string l.name,.bool l.ask,.bool l.has]:=by simp [seenV]
theorem rep_row {w:World}{base g c:Nat}{ys:List Reply}(h:w.ownsRow base 211 3 (.slice (some ⟨g,0,none⟩) ys.length c) ys.length (repV ys)):RowReply w g 0 ys.length (yL ys):=by
 obtain ⟨_,hl,cs,hc⟩:=own_cellsM h g rfl
 refine ⟨hl,fun i hi=>?_⟩
 have hx:ys[i]?=some (yL ys i):=by simp [yL,List.getElem?_eq_getElem hi]
 have hat:∀ j u,j<3→([Value.bool (yL ys i).has,.int .i64 (yL ys i).code,.string (yL ys i).text]:List Value)[j]?=some u→w.cell? ⟨g,i*3+j,none⟩=some u:=fun j u hj hu=>by
  have h1:=h.cells (g:=g) rfl (i*3+j) u (by rw [repV,flat_at (fun r:Reply=>[.bool r.has,.int .i64 r.code,.string r.text]) 3 (fun _=>rfl) ys i j hj _ hx];exact hu)
  rw [addr_add,Nat.zero_add] at h1
  exact h1
 refine ⟨?_,?_,?_⟩
 ·rw [Nat.zero_add];exact hat 0 _ (by omega) rfl
 ·rw [Nat.zero_add];exact hat 1 _ (by omega) rfl
 ·rw [Nat.zero_add];exact hat 2 _ (by omega) rfl
theorem lit_own (w:World)(e:TypeId)(size:Nat):(w.alloc (.cells #[] e)).ownsRow w.heap.size e size (.slice (some ⟨w.heap.size,0,none⟩) 0 0) 0 [] :=
 ⟨by simp,.inr ⟨w.heap.size,0,#[],rfl,Nat.le_refl _,heap_alloc_new _ _,Nat.le_refl _,Nat.zero_le _,by simp,by simp⟩⟩
theorem next_turn {S:Spc}(hS:SpcOk S){tg:Nat}(ht:tg<S.n1){ys:List Reply}(hy:∀ y∈ys,replyOk y=true)(hl:ys.length≤200):nextA (S.f1 tg).act (S.f1 tg).actN (yL ys) ys.length=turnY S tg ys:=by
 unfold nextA
 have hr:repliesTo (yL ys) ys.length=true:=by
  have:∀ k,repliesTo (yL ys) k=true:=fun k=>by
   induction k with
   | zero=>rfl
   | succ k ih=>rw [repliesTo,ih,yL_ok hy k];rfl
  exact this _
 rw [if_neg (by rw [hS.act tg ht];simp),if_neg (by omega),if_neg (by rw [hr];simp)]
 rfl
theorem ins_size {S:Spc}(hS:SpcOk S){tg:Nat}(ht:tg<S.n1):∀ i,i<(S.f1 tg).actN→((S.f1 tg).act i).s.size≤maxLen:=fun i hi=>by
 have h1:=ok_at (valid_parts (hS.act tg ht)).1 hi
 simp only [insOk,decide_eq_true_eq] at h1
 obtain ⟨i1,i2,i3,i4,i5⟩:=h1
 have hmt2:mostText ((S.f1 tg).act i).op≤2000:=by unfold mostText;split<;>omega
 unfold maxLen
 omega
section
variable {w0:World}{S:Spc}{a0 a1:Option Addr}{c0 c1 hb:Nat}{md or st:Value}{making:List ByteArray}{made:List Ent}{L:List SM}
theorem shop_has (C:SCtx w0 S a0 a1)(w:World)(t:ByteArray)(hbel:Below w0.heap.size w0 w)(hl:hb<w.heap.size)(hc0:w.cell? ⟨hb,0,none⟩=some (.slice a0 S.n0 c0))(hc1:w.cell? ⟨hb,1,none⟩=some (.slice a1 S.n1 c1)) :
  Calls Tryz.prog 152 #[.pointer (some ⟨hb,0,none⟩),.string t] w fun e w'=>e=.returned (.bool (hasS S t))∧Below w.heap.size w w':=by
 have CC:=hide C
 have BL:=hide hbel
 have hsm:=C.ok.small
 obtain ⟨R,hR⟩:∃ R,R=hasS S t:=⟨_,rfl⟩
 rw [← hR]
 have HR:Hid (R=((atI (nm0 S.f0) S.n0 t).isSome || (atI (nm1 S.f1) S.n1 t).isSome)):=by show _=_;rw [hR];unfold hasS;rw [isIn_atI2,isIn_atI2]
 clear C hbel hR
 go_enter Tryz.func152,Tryz.ntmps152
 go_wp2_with fail
 refine (l2Source_at a0 S.n0 c0 a1 S.n1 c1 S.f0 t w (by omega) (CC.out.src.below BL.out lr)).mono ?_
 rintro e w1 ⟨rfl,hB⟩
 have d0:=(hB.cell (p:=⟨hb,0,none⟩) hl).trans hc0
 have d1:=(hB.cell (p:=⟨hb,1,none⟩) hl).trans hc1
 have hl1:hb<w1.heap.size:=Nat.lt_of_lt_of_le hl hB.size
 have B1:=hide hB
 clear hB hc0 hc1
 cases h0:atI (nm0 S.f0) S.n0 t with
 | some i =>
  have HA:=hide h0
  clear h0
  have hge:(0:Int)≤(i:Int):=by omega
  simp only [idxI]
  go_wp2
  go_ret
  exact ⟨by rw [HR.out,HA.out];rfl,B1.out⟩
 | none =>
  have HA:=hide h0
  clear h0
  simp only [idxI]
  go_wp2_with fail
  refine (l2Target_at a0 S.n0 c0 a1 S.n1 c1 S.f1 t w1 (by omega) (CC.out.tgt.below (BL.out.trans (B1.out.mono BL.out.size)) lr)).mono ?_
  rintro e w2 ⟨rfl,hB⟩
  have B2:=hide (B1.out.trans (hB.mono B1.out.size))
  clear hB d0 d1
  cases h1:atI (nm1 S.f1) S.n1 t with
  | some i =>
   have HA1:=hide h1
   clear h1
   have hge:(0:Int)≤(i:Int):=by omega
   simp only [idxI]
   go_wp2
   go_ret
   exact ⟨by rw [HR.out,HA.out,HA1.out];simp,B2.out⟩
  | none =>
   have HA1:=hide h1
   clear h1
   simp only [idxI]
   go_wp2
   go_ret
   exact ⟨by rw [HR.out,HA.out,HA1.out];rfl,B2.out⟩
end
theorem zeroMark (w:World):(zeroValue 189).run Tryz.prog w=.ok (.agg #[.int .i64 0,.pointer none]) w:=by kernel_rfl
theorem find_same (made:List Ent)(nm:ByteArray):made.find? (fun e=>e.name.toList == nm.toList)=entOf made nm:=rfl
theorem markF_hit {G:ByteArray→Nat}{mm:List ByteArray}{made:List Ent}{nm:ByteArray}{e:Ent}(h:entOf made nm=some e):markF G mm made nm.toList=some (.agg #[.int .i64 0,.pointer (some ⟨G e.name,0,none⟩)]):=by
 unfold markF
 rw [find_same,h]
theorem markF_begun {G:ByteArray→Nat}{mm:List ByteArray}{made:List Ent}{nm:ByteArray}(h:entOf made nm=none):markF G mm made nm.toList=(atL mm nm).map fun (i:Nat)=>.agg #[.int .i64 (i:Int),.pointer none]:=by
 unfold markF
 rw [find_same,h]
 rfl
section
variable {w0:World}{S:Spc}{mb mp:Nat}{s0 s1 mk md:Value}{mm making:List ByteArray}{made:List Ent}{G:ByteArray→Nat}{V:ByteArray→Value}
theorem lies_hit (w:World)(nm:ByteArray)(h:MI w0 S mb mp s0 s1 w mm making made G V mk md)(hn:nm.size≤60)(e:Ent)(he:entOf made nm=some e) :
  Calls Tryz.prog 95 #[.pointer (some ⟨mb,0,none⟩),.string nm] w fun r w'=>r=.returned (.pointer (some ⟨G e.name,0,none⟩))∧Below w.heap.size w w':=by
 have HV:=hide (show (markF G mm made nm.toList).getD (.agg #[.int .i64 0,.pointer none])=.agg #[.int .i64 0,.pointer (some ⟨G e.name,0,none⟩)] by rw [markF_hit he];rfl)
 have HF:=hide (show (markF G mm made nm.toList).isSome=true by rw [markF_hit he];rfl)
 have HM:=hide h
 obtain ⟨hl,-,-,c2,-,-,-⟩:=h.box.facts
 have hsz:nm.size≤maxLen:=by unfold maxLen;omega
 have hz:=zeroMark
 have B1:=hide ((Below.refl w.heap.size w).alloc lr (.cells #[.int .i64 0,.pointer (some ⟨G e.name,0,none⟩)] 189))
 clear h he
 go_enter Tryz.func95,Tryz.ntmps95
 go_wp2_with (first
  | (at_lookup;refine wpN_lookup_ok _ rfl _ _ 135 rfl 189 Tryz.underlying135 (hz _) mp _ _ rfl HM.out.map nm rfl hsz _ HV.out true HF.out ?_)
  | fail)
 go_ret
 exact ⟨rfl,B1.out⟩
theorem lies_circle (w:World)(nm:ByteArray)(h:MI w0 S mb mp s0 s1 w making making made G V mk md)(hn:nm.size≤60)(hm:making.length≤60)(he:entOf made nm=none)(i:Nat)(hi:atL making nm=some i) :
  Calls Tryz.prog 95 #[.pointer (some ⟨mb,0,none⟩),.string nm] w fun r w'=>∃ v,r=.panicked [{ v:=.iface 184 (.agg #[v]),recovered:=false }]∧w'.ownsRow w.heap.size 9 1 v (making.drop i).length (strV (making.drop i))∧Below w.heap.size w w':=by
 have HV:=hide (show (markF G making made nm.toList).getD (.agg #[.int .i64 0,.pointer none])=.agg #[.int .i64 (i:Int),.pointer none] by rw [markF_begun he,hi];rfl)
 have HF:=hide (show (markF G making made nm.toList).isSome=true by rw [markF_begun he,hi];rfl)
 have HM:=hide h
 obtain ⟨hl,-,-,c2,c3,-,-⟩:=h.box.facts
 have hil:i<making.length:=by
  unfold atL at hi
  exact (List.findIdx?_eq_some_iff_findIdx_eq.1 hi).1
 obtain ⟨g,cap,cur,rfl,hg1,hg2,hg3,hg4,hg5,hg6⟩:=h.rmk.2.resolve_left fun h=>by omega
 have HC:=hide (h.rmk.cells (g:=g) rfl)
 have hsz:nm.size≤maxLen:=by unfold maxLen;omega
 have hz:=zeroMark
 have B1:=hide ((Below.refl w.heap.size w).alloc lr (.cells #[.int .i64 (i:Int),.pointer none] 189))
 have hgl:g<w.heap.size:=heap_lt hg2
 obtain ⟨n,hnn⟩:∃ n,n=making.length:=⟨_,rfl⟩
 rw [← hnn] at hil hm c3 hg3
 have HNN:=hide hnn
 clear hnn
 have c3':=(B1.out.cell (p:=⟨mb,3,none⟩) hl).trans c3
 have k0:(w.alloc (.cells #[.int .i64 (i:Int),.pointer none] 189)).cell? ⟨w.heap.size,0,none⟩=some (.int .i64 (i:Int)):=by simp
 clear h he hg2 hg5 hg6 hi
 go_enter Tryz.func95,Tryz.ntmps95
 go_wp2_with (first
  | (at_lookup;refine wpN_lookup_ok _ rfl _ _ 135 rfl 189 Tryz.underlying135 (hz _) mp _ _ rfl HM.out.map nm rfl hsz _ HV.out true HF.out ?_)
  | fail)
 clear c2 c3
 have hw0:w.heap.size<(w.alloc (.cells #[.int .i64 (i:Int),.pointer none] 189)).heap.size:=by simp
 generalize w.alloc (.cells #[.int .i64 (i:Int),.pointer none] 189)=W1 at B1 c3' k0 hw0 ⊢
 have hI0:(0:Int)≤(i:Int):=by omega
 have hI1:(i:Int)≤(n:Int):=by omega
 have hI2:(n:Int)≤(cap:Int):=by omega
 have hcl:¬ cap=i:=by omega
 have hl1:mb<W1.heap.size:=by have:=B1.out.size;omega
 have hw1:w.heap.size<W1.heap.size:=hw0
 have HCC:Hid (∀ W,Below w.heap.size w W→∀ j,j<(making.drop i).length→W.cell? ⟨g,i+j,none⟩=some (.string ((making.drop i).getD j ByteArray.empty))):=fun W hW j hj=>by
  rw [List.length_drop] at hj
  have h1:=HC.out (i+j) (.string ((making.drop i).getD j ByteArray.empty)) (by
   rw [strV,List.getElem?_map,List.getElem?_eq_getElem (by omega)]
   simp [List.getD_eq_getElem?_getD,List.getElem?_drop,List.getElem?_eq_getElem (show i+j<making.length by omega)])
  exact (hW.cell (p:=⟨g,i+j,none⟩) hgl).trans (by rw [addr_add,Nat.zero_add] at h1;exact h1)
 refine wp_region_held_drew (S:=fun V=>V.cell? ⟨mb,3,none⟩=some (.slice (some ⟨g,0,none⟩) n cap)∧V.cell? ⟨w.heap.size,0,none⟩=some (.int .i64 (i:Int))) (by as_aux_lemma=>kernel_rfl) ⟨c3',k0⟩ (fun hS=>?_)
 have HS:=hide hS
 clear hS
 iterate 3
  refine anyS_nx 0 (v:=?_) rfl rfl (by as_aux_lemma=>kernel_rfl) (fun _ _ _ h=>h) rfl ?_ HS.out ?_
  rotate_left
  ·(intro wz hSw;obtain ⟨s0,s1⟩:=hSw;go_simp)
   (try with_reducible rfl)
  (try simp only [Act.put,List.setIfInBounds_toArray,List.set_cons_zero,List.set_cons_succ])
 refine anyS_nx 4 (v:=?_) rfl rfl (by as_aux_lemma=>kernel_rfl) (fun _ _ _ h=>h) rfl ?_ HS.out ?_
 rotate_left
 ·(intro wz hSw;obtain ⟨s0,s1⟩:=hSw;go_simp)
  (try with_reducible rfl)
 (try simp only [Act.put,List.setIfInBounds_toArray,List.set_cons_zero,List.set_cons_succ])
 refine anyS_nx 3 (v:=?_) rfl rfl (by as_aux_lemma=>kernel_rfl) (fun _ _ _ h=>h) rfl ?_ HS.out ?_
 rotate_left
 ·(intro wz hSw;obtain ⟨s0,s1⟩:=hSw;go_simp)
  (try with_reducible rfl)
 (try simp only [Act.put,List.setIfInBounds_toArray,List.set_cons_zero,List.set_cons_succ])
 iterate 2
  refine anyS_nx 5 (v:=?_) rfl rfl (by as_aux_lemma=>kernel_rfl) (fun _ _ _ h=>h) rfl ?_ HS.out ?_
  rotate_left
  ·(intro wz hSw;obtain ⟨s0,s1⟩:=hSw;go_simp)
   (try with_reducible rfl)
  (try simp only [Act.put,List.setIfInBounds_toArray,List.set_cons_zero,List.set_cons_succ])
 refine anyS_one (i:=7) rfl (by as_aux_lemma=>kernel_rfl) (fun K hK=>?_)
 go_simp
 go_at_call 136
 refine (Tryz.slices_Clone_string g i (n - i) (cap - i) (making.drop i) _ (by rw [List.length_drop,← HNN.out];exact Nat.le_refl _) (by omega) (HCC.out _ B1.out.drew)).mono ?_
 rintro e w2 ⟨v2,rfl,hown,hne,hB⟩
 have O2:=hide hown
 obtain ⟨g2,cap2,cur2,rfl,q1,q2⟩:=hown.2.resolve_left (fun h=>hne h.1)
 have B2:Hid (Below W1.heap.size W1 w2):=⟨hB.os,hB.tape,hB.output,hB.size,hB.block⟩
 clear hown hB q1 q2 hne
 refine hK.out _ _ ⟨(B2.out.cell (p:=⟨mb,3,none⟩) hl1).trans c3',(B2.out.cell (p:=⟨w.heap.size,0,none⟩) hw1).trans k0⟩ ?_
 clear hK K HS
 have HS:Hid (w2.cell? ⟨mb,3,none⟩=some (.slice (some ⟨g,0,none⟩) n cap)∧w2.cell? ⟨w.heap.size,0,none⟩=some (.int .i64 (i:Int))):=⟨(B2.out.cell (p:=⟨mb,3,none⟩) hl1).trans c3',(B2.out.cell (p:=⟨w.heap.size,0,none⟩) hw1).trans k0⟩
 (try simp only [Act.put,List.setIfInBounds_toArray,List.set_cons_zero,List.set_cons_succ])
 iterate 2
  refine anyS_nx 8 (v:=?_) rfl rfl (by as_aux_lemma=>kernel_rfl) (fun _ _ _ h=>h) rfl ?_ HS.out ?_
  rotate_left
  ·(intro wz hSw;obtain ⟨s0,s1⟩:=hSw;go_simp)
   (try with_reducible rfl)
  (try simp only [Act.put,List.setIfInBounds_toArray,List.set_cons_zero,List.set_cons_succ])
 refine anyS_one (i:=10) rfl (by as_aux_lemma=>kernel_rfl) (fun K hK=>?_)
 go_simp
 refine ⟨rfl,_,rfl,?_,?_⟩
 ·have h1:=own_mono (base':=w.heap.size) O2.out B1.out.size
  have e1:(making.drop i).length=n - i:=by rw [List.length_drop,← HNN.out]
  rw [e1]
  rw [List.take_of_length_le (by omega)] at h1
  exact h1
 ·exact B1.out.trans (B2.out.mono B1.out.size)
end
def updB {α:Type}(f:ByteArray→α)(nm:ByteArray)(v:α):ByteArray→α:=fun t=>if t.toList=nm.toList then v else f t
theorem updB_same {α:Type}(f:ByteArray→α)(nm:ByteArray)(v:α):updB f nm v nm=v:=if_pos rfl
theorem updB_other {α:Type}(f:ByteArray→α){nm t:ByteArray}(v:α)(h:t≠nm):updB f nm v t=f t:=if_neg fun e=>h (bytes_eq e)
theorem mark_begin {G:ByteArray→Nat}{making:List ByteArray}{made:List Ent}{nm:ByteArray}(h0:entOf made nm=none)(h1:atL making nm=none)(s:List UInt8) :
  (if s=nm.toList then some (.agg #[.int .i64 (making.length:Int),.pointer none]) else markF G making made s)=markF G (making++[nm]) made s:=by
 unfold markF
 by_cases e:s=nm.toList
 ·subst e
  rw [if_pos rfl,find_same,h0,List.findIdx?_append,show List.findIdx? (fun x:ByteArray=>x.toList == nm.toList) making=none from h1]
  simp [List.findIdx?_cons]
 ·rw [if_neg e,List.findIdx?_append]
  have hn:(nm.toList == s)=false:=by simpa using fun h=>e h.symm
  cases made.find? (fun e=>e.name.toList == s) with
  | some x=>rfl
  | none=>simp [List.findIdx?_cons,hn]
theorem mark_end {G G':ByteArray→Nat}{mm making:List ByteArray}{made:List Ent}{nm:ByteArray}{x:Ent}{eb:Nat}(h0:entOf made nm=none)(hx:x.name=nm)(hG:∀ y∈made,G' y.name=G y.name)(he:G' nm=eb)(hm:mm=making∨mm=making++[nm])(s:List UInt8) :
  (if s=nm.toList then some (.agg #[.int .i64 0,.pointer (some ⟨eb,0,none⟩)]) else markF G mm made s)=markF G' making (made++[x]) s:=by
 unfold markF
 rw [List.find?_append]
 by_cases e:s=nm.toList
 ·subst e
  rw [if_pos rfl,find_same,h0]
  simp [hx,he]
 ·rw [if_neg e]
  have hn:(nm.toList == s)=false:=by simpa using fun h=>e h.symm
  cases hf:made.find? (fun e=>e.name.toList == s) with
  | some y =>
   simp only [Option.some_or]
   rw [hG y (List.mem_of_find?_eq_some hf)]
  | none =>
   have h2:List.find? (fun e:Ent=>e.name.toList == s) [x]=none:=by simp [hx,hn]
   rw [h2]
   rcases hm with rfl | rfl
   ·rfl
   ·simp [List.findIdx?_append,List.findIdx?_cons,hn]
section
variable {w0 w:World}{S:Spc}{mb mp:Nat}{s0 s1 mk md:Value}{mm making:List ByteArray}{made:List Ent}{G:ByteArray→Nat}{V:ByteArray→Value}
theorem EntAt.congr {G':ByteArray→Nat}{b:Nat}{v:Value}{x:Ent}(h:EntAt w0 S G w b v x)(hG:∀ l∈x.looks,l.ask=true→G' l.name=G l.name):EntAt w0 S G' w b v x:=by
 obtain ⟨h1,h2,h3⟩:=h
 refine ⟨h1,h2,?_⟩
 rw [tiesV_congr hG]
 exact h3
theorem MIg.added {nm:ByteArray}{x:Ent}{eb cnt:Nat}{v:Value}(h:MIg w0 S mb mp s0 s1 w cnt (fun s=>if s=nm.toList then some (.agg #[.int .i64 0,.pointer (some ⟨eb,0,none⟩)]) else markF G mm made s) making.length (strV making) (made.length+1) (ptrV G made++[.pointer (some ⟨eb,0,none⟩)]) made G V mk md)(hp:PG S making made)(h0:entOf made nm=none)(hx:x.name=nm)
  (hm:mm=making∨mm=making++[nm]) (hc:cnt≤2*(made.length+1)+making.length) (he:EntAt w0 S G w eb v x) (hf:∀ y∈made,G y.name≠eb) (ha:∀ l∈x.looks,l.ask=true→∃ y∈made,y.name=l.name) :
  MI w0 S mb mp s0 s1 w making making (made++[x]) (updB G nm eb) (updB V nm v) mk md:=by
 have hne:=entOf_none h0
 have hG:∀ y∈made,updB G nm eb y.name=G y.name:=fun y hy=>updB_other _ _ (hne y hy)
 have hV:∀ y∈made,updB V nm v y.name=V y.name:=fun y hy=>updB_other _ _ (hne y hy)
 have hl:(made++[x]).length=made.length+1:=by simp
 refine ⟨h.bel,h.mbB,h.mpB,h.box,h.rmk,?_,?_,fun y hy=>?_,?_⟩
 ·have e:ptrV (updB G nm eb) (made++[x])=ptrV G made++[.pointer (some ⟨eb,0,none⟩)]:=by
   simp only [ptrV,List.map_append,List.map_cons,List.map_nil,hx,updB_same]
   rw [List.map_congr_left fun y hy=>by rw [hG y hy]]
  rw [e,hl]
  exact h.rmd
 ·rw [hl]
  exact (h.map.mono hc).congr fun s=>mark_end h0 hx hG (updB_same _ _ _) hm s
 ·rcases List.mem_append.1 hy with hy | hy
  ·rw [hG y hy,hV y hy]
   refine (h.ents y hy).congr fun l hl ha=>?_
   obtain ⟨i,hi⟩:=List.getElem?_of_mem hy
   obtain ⟨j,z,_,hz,hn⟩:=hp.ord i y hi l hl ha
   rw [← hn]
   exact hG z (List.mem_of_getElem? hz)
  ·rw [List.mem_singleton.1 hy,hx,updB_same,updB_same]
   refine he.congr fun l hl ha2=>?_
   obtain ⟨z,hz,hn⟩:=ha l hl ha2
   rw [← hn]
   exact hG z hz
 ·rw [List.pairwise_append]
  refine ⟨?_,List.pairwise_singleton _ _,fun a ha b hb=>?_⟩
  ·exact h.dist.imp_of_mem fun {a b} ha hb h=>by rw [hG a ha,hG b hb];exact h
  ·rw [List.mem_singleton.1 hb,hx,updB_same,hG a ha]
   exact hf a ha
structure Ext (n:Nat)(made made':List Ent)(G G':ByteArray→Nat)(V V':ByteArray→Value):Prop where
 pre:∃ more,made'=made++more
 same:∀ x∈made,G' x.name=G x.name∧V' x.name=V x.name
 new:∀ x∈made',x∈made∨(n≤G' x.name∧∀ k,(V' x.name).ownBlock=some k→n≤k)
theorem Ext.refl (n:Nat)(made:List Ent)(G:ByteArray→Nat)(V:ByteArray→Value):Ext n made made G G V V:=⟨⟨[],by simp⟩,fun _ _=>⟨rfl,rfl⟩,fun _ h=>.inl h⟩
theorem Ext.mem {n:Nat}{made made':List Ent}{G G':ByteArray→Nat}{V V':ByteArray→Value}(h:Ext n made made' G G' V V'):∀ x∈made,x∈made':=by
 obtain ⟨more,e⟩:=h.pre
 intro x hx
 rw [e]
 exact List.mem_append_left _ hx
theorem Ext.trans {n m:Nat}{a b c:List Ent}{G0 G1 G2:ByteArray→Nat}{V0 V1 V2:ByteArray→Value}(h:Ext n a b G0 G1 V0 V1)(k:Ext m b c G1 G2 V1 V2)(hnm:n≤m):Ext n a c G0 G2 V0 V2:=by
 obtain ⟨p,hp⟩:=h.pre
 obtain ⟨q,hq⟩:=k.pre
 refine ⟨⟨p++q,by rw [hq,hp,List.append_assoc]⟩,fun x hx=>?_,fun x hx=>?_⟩
 ·obtain ⟨e1,e2⟩:=h.same x hx
  obtain ⟨e3,e4⟩:=k.same x (h.mem x hx)
  exact ⟨e3.trans e1,e4.trans e2⟩
 ·rcases k.new x hx with hb | ⟨h1,h2⟩
  ·obtain ⟨e3,e4⟩:=k.same x hb
   rcases h.new x hb with ha | ⟨h1,h2⟩
   ·exact .inl ha
   ·exact .inr ⟨by rw [e3];exact h1,by rw [e4];exact h2⟩
  ·exact .inr ⟨Nat.le_trans hnm h1,fun k hk=>Nat.le_trans hnm (h2 k hk)⟩
theorem Ext.mono {n m:Nat}{a b:List Ent}{G0 G1:ByteArray→Nat}{V0 V1:ByteArray→Value}(h:Ext n a b G0 G1 V0 V1)(hnm:m≤n):Ext m a b G0 G1 V0 V1 :=
 ⟨h.pre,h.same,fun x hx=>(h.new x hx).imp id fun ⟨h1,h2⟩=>⟨Nat.le_trans hnm h1,fun k hk=>Nat.le_trans hnm (h2 k hk)⟩⟩
theorem ext_add {n:Nat}{made:List Ent}{nm:ByteArray}{x:Ent}{eb:Nat}{v:Value}(h0:entOf made nm=none)(hx:x.name=nm)(h1:n≤eb)(h2:∀ k,v.ownBlock=some k→n≤k):Ext n made (made++[x]) G (updB G nm eb) V (updB V nm v):=by
 refine ⟨⟨_,rfl⟩,fun y hy=>⟨updB_other _ _ (entOf_none h0 y hy),updB_other _ _ (entOf_none h0 y hy)⟩,fun y hy=>?_⟩
 rcases List.mem_append.1 hy with hy | hy
 ·exact .inl hy
 ·rw [List.mem_singleton.1 hy,hx,updB_same,updB_same]
  exact .inr ⟨h1,h2⟩
theorem EU.step {w':World}{eb tg:Nat}{nm:ByteArray}{ls:List Lk}{v:Value}{made':List Ent}{G':ByteArray→Nat}{V':ByteArray→Value}(h:EU w0 S w eb nm tg G ls v made V)(hk:KX w0.heap.size XN w w')(he:Ext w.heap.size made made' G G' V V'):EU w0 S w' eb nm tg G' ls v made' V':=by
 obtain ⟨⟨a,cap,hb,ha⟩,hge,hr,hf,hap,has⟩:=h
 have hG:∀ l∈ls,l.ask=true→G' l.name=G l.name:=fun l hl ha=>by
  obtain ⟨x,hx,e⟩:=has l hl ha
  rw [← e]
  exact (he.same x hx).1
 have hebl:=heap_lt hb
 refine ⟨⟨a,cap,(hk.blk _ _ _ _ hb (by decide) (by decide) (by decide) fun h=>h).trans hb,ha⟩,hge,?_,fun x hx=>?_,fun x hx k hk2=>?_,fun l hl ha=>?_⟩
 ·rw [tiesV_congr hG]
  refine own_blk hr fun k hk2=>?_
  obtain ⟨_,_,cs,hc⟩:=own_cellsM hr k hk2
  exact hk.blk k _ _ _ hc (by decide) (by decide) (by decide) fun h=>h
 ·rcases he.new x hx with hx | ⟨h1,_⟩
  ·rw [(he.same x hx).1];exact hf x hx
  ·omega
 ·rcases he.new x hx with hx | ⟨_,h1⟩
  ·rw [(he.same x hx).2];exact hap x hx k hk2
  ·intro e
   have:=h1 k e
   have:=(own_cellsM hr k hk2).2.1
   omega
 ·obtain ⟨x,hx,e⟩:=has l hl ha
  exact ⟨x,he.mem x hx,e⟩
end
structure Ctx (w0:World)(S:Spc)(a0:Option Addr)(c0:Nat)(a1:Option Addr)(c1:Nat):Prop where
 src:SlSource w0 a0 S.n0 S.f0
 tgt:SlTarget w0 a1 S.n1 S.f1
 ok:SpcOk S
 tab:Tab2 w0
 pow:Pow w0
 sz:∀ i,i<S.n0→(S.f0 i).text.size≤maxLen
def LiesPost (w0:World)(S:Spc)(mb mp:Nat)(s0 s1:Value)(making:List ByteArray)(made:List Ent)(G:ByteArray→Nat)(V:ByteArray→Value)(w:World)(e:Ending)(w':World):Out Ent→Prop
 | .inl (made',x)=>∃ G' V' mk' md',e=.returned (.pointer (some ⟨G' x.name,0,none⟩))∧MI w0 S mb mp s0 s1 w' making making made' G' V' mk' md'∧Ext w.heap.size made made' G G' V V'∧KX w0.heap.size XN w w'
 | .inr (.inl c)=>∃ v,e=.panicked [{ v:=.iface 184 (.agg #[v]),recovered:=false }]∧w'.ownsRow w0.heap.size 9 1 v c.length (strV c)∧Below w0.heap.size w w'
 | .inr (.inr d)=>e=.panicked [{ v:=.iface 186 (.agg #[.string d]),recovered:=false }]∧Below w0.heap.size w w'
def roomN (S:Spc)(making:List ByteArray)(made:List Ent)(k:Nat):Prop:=made.length+201*leftN S making made+k≤50000
def LiesOk (w0:World)(S:Spc)(mb mp:Nat)(s0 s1:Value)(n:Nat):Prop:=∀ making made G V mk md w nm,making.length+n=60→MI w0 S mb mp s0 s1 w making making made G V mk md→PG S making made→roomN S making made 1→nameOk nm=true →
 Calls Tryz.prog 95 #[.pointer (some ⟨mb,0,none⟩),.string nm] w fun e w'=>LiesPost w0 S mb mp s0 s1 making made G V w e w' (liesP S n making made nm)
theorem infoM2 {e:TypeId}{z:Value}{a b:Nat}(h:(Tryz.prog.info? e).map (fun i=>(i.zero,i.size,i.bytes))=some (some z,a,b)):∃ i,Tryz.prog.info? e=some i∧i.zero=some z∧i.size=a∧i.bytes=b:=by
 cases hi:Tryz.prog.info? e with
 | none=>rw [hi] at h;cases h
 | some i =>
  rw [hi] at h
  simp only [Option.map_some,Option.some.injEq,Prod.mk.injEq] at h
  exact ⟨i,rfl,h⟩
theorem infoTie:(Tryz.prog.info? 154).map (fun i=>(i.zero,i.size,i.bytes))=some (some (.agg #[.string ⟨#[]⟩,.bool false,.bool false,.int .i64 0,.pointer none]),5,40):=by kernel_rfl
theorem infoStrM:(Tryz.prog.info? 9).map (fun i=>(i.zero,i.size,i.bytes))=some (some (.string ⟨#[]⟩),1,16):=by kernel_rfl
theorem infoPtrM:(Tryz.prog.info? 83).map (fun i=>(i.zero,i.size,i.bytes))=some (some (.pointer none),1,8):=by kernel_rfl
abbrev offT (t:TypeId):Prop:=t≠9∧t≠83∧t≠137∧t≠89∧t≠154
section
variable {w0 w:World}{S:Spc}{mb mp:Nat}{s0 s1 mk md:Value}{cnt nk np:Nat}{F:List UInt8→Option Value}{ks ps:List Value}{made:List Ent}{G:ByteArray→Nat}{V:ByteArray→Value}
theorem MIg.setOff {b:Nat}{cs:Array Value}{t:TypeId}{fz:Nat × Nat}(h:MIg w0 S mb mp s0 s1 w cnt F nk ks np ps made G V mk md)(hb:w.heap[b]?=some (.cells cs t fz))(ht:offT t)(hB:w0.heap.size≤b)(j:Nat)(u:Value):MIg w0 S mb mp s0 s1 (w.setCell ⟨b,j,none⟩ u) cnt F nk ks np ps made G V mk md:=by
 have hk:KX w0.heap.size (fun i=>i=b) w (w.setCell ⟨b,j,none⟩ u):=KX.setCell (X:=fun i=>i=b) w hB (Or.inl rfl) u
 obtain ⟨t1,t2,t3,t4,t5⟩:=ht
 refine h.kx hk (fun i o hi hne=>Below.heap_setCell _ _ _ _ fun e=>hne e) (fun e=>?_) (fun e=>?_) (fun k hk2 e=>?_) (fun k hk2 e=>?_) (fun x hx=>⟨fun e=>?_,fun k hk2 e=>?_⟩)
 ·subst e;exact t3 (two_types hb h.box)
 ·obtain ⟨es,c,hm⟩:=h.map.isMap
  rw [e,hb] at hm;cases hm
 ·subst e;obtain ⟨_,_,cs,hc⟩:=own_cellsM h.rmk _ hk2;exact t1 (two_types hb hc)
 ·subst e;obtain ⟨_,_,cs,hc⟩:=own_cellsM h.rmd _ hk2;exact t2 (two_types hb hc)
 ·obtain ⟨act,hbl,_⟩:=(h.ents x hx).blk
  rw [e] at hbl
  exact t4 (two_types hb hbl)
 ·subst e;obtain ⟨_,_,cs,hc⟩:=own_cellsM (h.ents x hx).row _ hk2;exact t5 (two_types hb hc)
theorem EU.setOff {b eb tg:Nat}{nm:ByteArray}{ls:List Lk}{v:Value}{cs:Array Value}{t:TypeId}{fz:Nat × Nat}(h:EU w0 S w eb nm tg G ls v made V)(hb:w.heap[b]?=some (.cells cs t fz))(ht:offT t)(j:Nat)(u:Value):EU w0 S (w.setCell ⟨b,j,none⟩ u) eb nm tg G ls v made V:=by
 obtain ⟨⟨a,cap,hbl,ha⟩,hge,hr,hf,hap,has⟩:=h
 obtain ⟨t1,t2,t3,t4,t5⟩:=ht
 refine ⟨⟨a,cap,(Below.heap_setCell _ _ _ _ fun e=>?_).trans hbl,ha⟩,hge,own_other hr (fun e=>?_) _ _,hf,hap,has⟩
 ·simp at e;subst e;exact t4 (two_types hb hbl)
 ·obtain ⟨_,_,cs,hc⟩:=own_cellsM hr _ e;exact t5 (two_types hb hc)
theorem EU.below {w':World}{eb tg C:Nat}{nm:ByteArray}{ls:List Lk}{v:Value}(h:EU w0 S w eb nm tg G ls v made V)(hb:Below C w w')(hC:w.heap.size≤C):EU w0 S w' eb nm tg G ls v made V:=by
 obtain ⟨⟨a,cap,hbl,ha⟩,hge,hr,hf,hap,has⟩:=h
 exact ⟨⟨a,cap,(hb.block _ (Nat.lt_of_lt_of_le (heap_lt hbl) hC)).trans hbl,ha⟩,hge,own_below hr hb hC,hf,hap,has⟩
theorem EntBlk.facts {b:Nat}{nm text:ByteArray}{kind code place:Int}{act ties:Value}(h:EntBlk w b nm kind code text act ties place):b<w.heap.size∧w.cell? ⟨b,0,none⟩=some (.string nm)∧w.cell? ⟨b,1,none⟩=some (.int .i64 kind)∧w.cell? ⟨b,2,none⟩=some (.int .i64 code)∧w.cell? ⟨b,3,none⟩=some (.string text)∧w.cell? ⟨b,4,none⟩=some act∧w.cell? ⟨b,5,none⟩=some (.slice none 0 0)∧w.cell? ⟨b,6,none⟩=some ties∧w.cell? ⟨b,7,none⟩=some (.int .i64 place)∧∀ j,w.frozen? ⟨b,j,none⟩=false:=by
 unfold EntBlk at h
 refine ⟨heap_lt h,?_,?_,?_,?_,?_,?_,?_,?_,fun j=>?_⟩
 all_goals simp [World.cell?,World.frozen?,h]
theorem EU.tied {w1:World}{eb tg:Nat}{nm:ByteArray}{ls:List Lk}{v v':Value}{l:Lk}(h:EU w0 S w eb nm tg G ls v made V)(hl:l.ask=true→∃ x∈made,x.name=l.name)(hg:w.grownBy w1 v.ownBlock)(hr:w1.ownsRow w0.heap.size 154 5 v' (ls.length+1) (tiesV G ls++tieV G l))(hv:v'.ownBlock=v.ownBlock∨v'.ownBlock=some w.heap.size)(hV:∀ x∈made,∀ k,(V x.name).ownBlock=some k→k<w.heap.size) :
  EU w0 S (w1.setCell ⟨eb,6,none⟩ v') eb nm tg G (ls++[l]) v' made V:=by
 obtain ⟨⟨a,cap,hbl,ha⟩,hge,hr0,hf,hap,has⟩:=h
 have hne:some eb≠v.ownBlock:=fun e=>by
  obtain ⟨_,_,cs,hc⟩:=own_cellsM hr0 eb e.symm
  exact absurd (two_types hbl hc) (by decide)
 have hbl1:w1.heap[eb]?=_:=(hg.block eb (heap_lt hbl) hne).trans hbl
 refine ⟨⟨a,cap,heap_setCell_at hbl1 v',ha⟩,hge,?_,hf,fun x hx k hk=>?_,fun z hz hza=>?_⟩
 ·rw [tiesV_add,List.length_append,List.length_singleton]
  refine own_other hr (fun e=>?_) _ _
  obtain ⟨_,_,cs,hc⟩:=own_cellsM hr eb e
  exact absurd (two_types hbl1 hc) (by decide)
 ·rcases hv with e | e
  ·exact hap x hx k (by rw [← e];exact hk)
  ·rw [e] at hk
   cases hk
   intro e2
   have:=hV x hx _ e2
   omega
 ·rcases List.mem_append.1 hz with hz | hz
  ·exact has z hz hza
  ·rw [List.mem_singleton.1 hz] at hza ⊢;exact hl hza
theorem MIg.tied {w1:World}{eb tg:Nat}{nm:ByteArray}{ls:List Lk}{v v':Value}(h:MIg w0 S mb mp s0 s1 w cnt F nk ks np ps made G V mk md)(hu:EU w0 S w eb nm tg G ls v made V)(hg:w.grownBy w1 v.ownBlock):MIg w0 S mb mp s0 s1 (w1.setCell ⟨eb,6,none⟩ v') cnt F nk ks np ps made G V mk md∧KX w0.heap.size (fun i=>i=eb∨v.ownBlock=some i) w (w1.setCell ⟨eb,6,none⟩ v'):=by
 obtain ⟨⟨a,cap,hbl,ha⟩,hge,hr0,hf,hap,has⟩:=hu
 have k1:KX w0.heap.size (fun i=>i=eb∨v.ownBlock=some i) w w1:=KX.of_grown hg h.lt fun j hj=>⟨(own_cellsM hr0 j hj).1,.inl (.inr hj)⟩
 have k2:KX w0.heap.size (fun i=>i=eb∨v.ownBlock=some i) w1 (w1.setCell ⟨eb,6,none⟩ v'):=KX.setCell w1 hge (.inl (.inl rfl)) v'
 have hk:=k1.trans k2 fun _ _ h=>h
 refine ⟨h.kx hk (fun i o hi hne=>?_) (fun e=>?_) (fun e=>?_) (fun k hk2 e=>?_) (fun k hk2 e=>?_) (fun x hx=>⟨fun e=>?_,fun k hk2 e=>?_⟩),hk⟩
 ·exact (Below.heap_setCell _ _ _ _ fun e=>hne (.inl e)).trans (hg.block i (heap_lt hi) fun e=>hne (.inr e.symm))
 ·rcases e with e | e
  ·rw [← e] at hbl;exact absurd (two_types hbl h.box) (by decide)
  ·obtain ⟨_,_,cs,hc⟩:=own_cellsM hr0 _ e;exact absurd (two_types hc h.box) (by decide)
 ·obtain ⟨es,c,hm⟩:=h.map.isMap
  rcases e with e | e
  ·unfold EntBlk at hbl;rw [← e,hm] at hbl;cases hbl
  ·obtain ⟨_,_,cs,hc⟩:=own_cellsM hr0 _ e;rw [hm] at hc;cases hc
 ·obtain ⟨_,_,cs,hc⟩:=own_cellsM h.rmk _ hk2
  rcases e with e | e
  ·rw [← e] at hbl;exact absurd (two_types hbl hc) (by decide)
  ·obtain ⟨_,_,cs2,hc2⟩:=own_cellsM hr0 _ e;exact absurd (two_types hc hc2) (by decide)
 ·obtain ⟨_,_,cs,hc⟩:=own_cellsM h.rmd _ hk2
  rcases e with e | e
  ·rw [← e] at hbl;exact absurd (two_types hbl hc) (by decide)
  ·obtain ⟨_,_,cs2,hc2⟩:=own_cellsM hr0 _ e;exact absurd (two_types hc hc2) (by decide)
 ·rcases e with e | e
  ·exact hf x hx e
  ·obtain ⟨act,hbl2,_⟩:=(h.ents x hx).blk
   obtain ⟨_,_,cs2,hc2⟩:=own_cellsM hr0 _ e;exact absurd (two_types hbl2 hc2) (by decide)
 ·rcases e with e | e
  ·obtain ⟨_,_,cs2,hc2⟩:=own_cellsM (h.ents x hx).row _ hk2
   rw [← e] at hbl;exact absurd (two_types hbl hc2) (by decide)
  ·exact hap x hx k e hk2
theorem MIg.vlt (h:MIg w0 S mb mp s0 s1 w cnt F nk ks np ps made G V mk md):∀ x∈made,∀ k,(V x.name).ownBlock=some k→k<w.heap.size:=fun x hx k hk=>(own_cellsM (h.ents x hx).row k hk).2.1
end
end Go.Proofs.YtfnbojfnelfnkaaGreatDoor.Vp
