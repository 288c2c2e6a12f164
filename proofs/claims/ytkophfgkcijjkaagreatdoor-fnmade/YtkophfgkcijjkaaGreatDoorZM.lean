import Derived.Test.YtkophfgkcijjkaaGreatDoorZJ
import Derived.Sort.Walk0
set_option maxRecDepth 100000
set_option maxHeartbeats 16000000
namespace Go.Proofs.YtkophfgkcijjkaaGreatDoor.Vp
open RowKit Go.Sort
abbrev aM (a b:ByteArray):Bool:=Op.bytesLess a.toList b.toList
theorem dw {a b c:ByteArray}(h1:aM a b=true)(h2:aM b c=true):aM a c=true:=by
 simp only [aM,bytesLess_eq,decide_eq_true_eq] at *
 exact List.lt_trans h1 h2
theorem eU (a:ByteArray):aM a a=false:=by
 simp only [aM,bytesLess_eq,decide_eq_false_iff_not]
 exact List.lt_irrefl _
theorem eV {g:Nat→ByteArray}{n:Nat}(h:aY g n=true){i j:Nat}(hij:i<j)(hj:j<n):aM (g i) (g j)=true:=by
 induction j with
 | zero=>omega
 | succ m ih =>
  have h2:=eQ (show m+2≤n by omega) h
  simp only [aY,Bool.and_eq_true] at h2
  by_cases e:i=m
  ·subst e;exact h2.2
  ·exact dw (ih (by omega) (by omega)) h2.2
def aO (g:Nat→ByteArray)(n:Nat)(t:ByteArray):Bool:=(List.range n).any fun i=>(g i).toList == t.toList
theorem je {g:Nat→ByteArray}{n i:Nat}{t:ByteArray}(hs:aY g n=true)(hi:i≤n)(h1:∀ m,m<i→aM (g m) t=true)(h2:∀ m,i≤m→m<n→aM (g m) t=false):aO g n t=(decide (i<n) && ((g i).toList == t.toList)):=by
 by_cases hlt:i<n
 ·simp only [hlt,decide_true,Bool.true_and]
  cases e:(g i).toList == t.toList with
  | true =>
   simp only [aO,List.any_eq_true,List.mem_range]
   exact ⟨i,hlt,e⟩
  | false =>
   simp only [aO,List.any_eq_false,List.mem_range]
   intro m hm hq
   have hq':(g m).toList=t.toList:=by simpa using hq
   rcases Nat.lt_trichotomy m i with c | c | c
   ·have:=h1 m c
    simp only [aM,hq'] at this
    have h3:=eU t
    simp only [aM] at h3
    rw [h3] at this
    cases this
   ·subst c
    rw [hq] at e
    cases e
   ·have h3:=eV hs c hm
    simp only [aM,hq'] at h3
    have h4:=h2 i lr hlt
    simp only [aM] at h4
    rw [h3] at h4
    cases h4
 ·have e:i=n:=by omega
  subst e
  simp only [Nat.lt_irrefl,decide_false,Bool.false_and]
  simp only [aO,List.any_eq_false,List.mem_range]
  intro m hm hq
  have hq':(g m).toList=t.toList:=by simpa using hq
  have:=h1 m hm
  simp only [aM,hq'] at this
  have h3:=eU t
  simp only [aM] at h3
  rw [h3] at this
  cases this
theorem xr (x:ByteArray)(w:World):Calls Tryz.prog 217 #[.string x] w fun e w'=>e=.returned (.bool false)∧w'=w:=by
 go_enter Tryz.func217,Tryz.ntmps217
 go_wp2
 go_ret
 exact ⟨by simp,rfl⟩
theorem xt (x:ByteArray)(w:World):Calls Tryz.prog 191 #[.string x] w fun e w'=>e=.returned (.bool false)∧w'=w:=by
 go_enter Tryz.func191,Tryz.ntmps191
 go_wp2
 go_ret
 exact ⟨by simp,rfl⟩
theorem vk (x y:ByteArray)(w:World):Calls Tryz.prog 190 #[.string x,.string y] w fun e w'=>e=.returned (.bool (aM x y))∧w'=w:=by
 go_enter Tryz.func190,Tryz.ntmps190
 go_wp2_with (go_at_call 217;refine (xr _ _).mono ?_;rintro e w1 ⟨rfl,rfl⟩)
 all_goals
  go_ret
  exact ⟨by simp,rfl⟩
theorem qz (b off n cap:Nat)(g:Nat→ByteArray)(t:ByteArray)(w:World)(hn:(n:Int)≤1048576)(hr:RowStr w b off n g)(hs:aY g n=true) :
  Calls Tryz.prog 139 #[.slice (some ⟨b,off,none⟩) n cap,.string t] w fun e w'=>∃ i:Int,e=.returned (.tuple #[.int .i64 i,.bool (aO g n t)])∧w'=w:=by
 have HR:=ae hr
 have HS:=ae hs
 clear hr hs
 obtain ⟨I,hI2⟩:∃ I,I=aO g n t:=⟨_,rfl⟩
 rw [← hI2]
 have HI2:=ae hI2
 clear hI2
 go_enter Tryz.func139,Tryz.ntmps139
 go_wp2
 go_loop [7,8] (fun i j=>∃ p q:Nat,p≤q∧q≤n∧i=.int .i64 p∧j=.int .i64 q∧Hid (∀ m,m<p→aM (g m) t=true)∧Hid (∀ m,q≤m→m<n→aM (g m) t=false)) (fun i j=>(intOf j).toNat - (intOf i).toNat)
 case atStart=>exact ⟨0,n,by omega,by omega,rfl,rfl,fun m hm=>absurd hm (Nat.not_lt_zero _),fun m h1 h2=>by omega⟩
 case round =>
  obtain ⟨p,q,hpq,hq,rfl,rfl,H1,H2⟩:=hrel
  by_cases hlt:p<q
  ·obtain ⟨m,hm⟩:∃ m:Nat,m=(p+q) / 2:=⟨_,rfl⟩
   have hm1:p≤m:=by omega
   have hm2:m<q:=by omega
   have c0:=HR.out.2 m (by omega)
   have hsh:((p:Int)+q) / 2=m:=by omega
   clear hm
   cases hb:aM (g m) t with
   | true =>
    have HB:=ae hb
    clear hb
    go_wp2_with (go_at_call 190;refine (vk _ _ _).mono ?_;rintro e w1 ⟨rfl,rfl⟩;rw [HB.out])
    refine ⟨⟨m+1,q,by omega,hq,by go_num,rfl,fun x hx=>?_,H2.out⟩,by simp [intOf];omega⟩
    by_cases e:x=m
    ·subst e;exact HB.out
    ·exact dw (eV HS.out (show x<m by omega) (by omega)) HB.out
   | false =>
    have HB:=ae hb
    clear hb
    go_wp2_with (go_at_call 190;refine (vk _ _ _).mono ?_;rintro e w1 ⟨rfl,rfl⟩;rw [HB.out])
    refine ⟨⟨p,m,hm1,by omega,rfl,rfl,H1.out,fun x h1 h2=>?_⟩,by simp [intOf];omega⟩
    by_cases e:x=m
    ·subst e;exact HB.out
    ·cases hx:aM (g x) t with
     | false=>rfl
     | true =>
      have:=dw (eV HS.out (show m<x by omega) h2) hx
      rw [HB.out] at this
      cases this
  ·have e:p=q:=by omega
   subst e
   have HI:=ae (HI2.out.trans (je HS.out hq H1.out H2.out))
   by_cases hlt2:p<n
   ·have c0:=HR.out.2 p hlt2
    cases hb:((g p).toList == t.toList) with
    | true =>
     have hI3:I=true:=by rw [HI.out,hb];simp [hlt2]
     subst hI3
     go_wp2
     refine bodyPost_ret (v:=.tuple #[.int .i64 p,.bool true]) (by simp [results,Tryz.results139,go_sem]) rfl (by first | exact ⟨⟨_,rfl⟩,rfl⟩ | exact ⟨_,rfl,rfl⟩)
    | false =>
     have hI3:I=false:=by rw [HI.out,hb];simp
     subst hI3
     go_wp2_with (go_at_call 191;refine (xt _ _).mono ?_;rintro e w1 ⟨rfl,rfl⟩)
     all_goals
      refine bodyPost_ret (v:=.tuple #[.int .i64 p,.bool false]) (by simp [results,Tryz.results139,go_sem]) rfl (by first | exact ⟨⟨_,rfl⟩,rfl⟩ | exact ⟨_,rfl,rfl⟩)
   ·have hI3:I=false:=by rw [HI.out];simp [hlt2]
    subst hI3
    go_wp2
    refine bodyPost_ret (v:=.tuple #[.int .i64 p,.bool false]) (by simp [results,Tryz.results139,go_sem]) rfl (by first | exact ⟨⟨_,rfl⟩,rfl⟩ | exact ⟨_,rfl,rfl⟩)
theorem qA (a:Option Addr)(cap:Nat)(t:ByteArray)(w:World) :
  Calls Tryz.prog 139 #[.slice a 0 cap,.string t] w fun e w'=>∃ i:Int,e=.returned (.tuple #[.int .i64 i,.bool false])∧w'=w:=by
 go_enter Tryz.func139,Tryz.ntmps139
 go_wp2
 go_loop [7,8] (fun i j=>i=.int .i64 0∧j=.int .i64 0) (fun _ _=>0)
 case atStart=>exact ⟨rfl,rfl⟩
 case round =>
  obtain ⟨rfl,rfl⟩:=hrel
  go_wp2
  refine bodyPost_ret (v:=.tuple #[.int .i64 0,.bool false]) (by simp [results,Tryz.results139,go_sem]) rfl (by first | exact ⟨⟨_,rfl⟩,rfl⟩ | exact ⟨_,rfl,rfl⟩)
end Go.Proofs.YtkophfgkcijjkaaGreatDoor.Vp
namespace Go.Proofs.YtkophfgkcijjkaaGreatDoor.Vp
open RowKit
theorem iL (g:Nat→ByteArray)(t:ByteArray):aO g 0 t=false:=rfl
theorem qB (a:Option Addr)(n cap:Nat)(g:Nat→ByteArray)(t:ByteArray)(w:World)(hn:(n:Int)≤1048576)(hr:SlStr w a n g)(hs:aY g n=true) :
  Calls Tryz.prog 139 #[.slice a n cap,.string t] w fun e w'=>∃ i:Int,e=.returned (.tuple #[.int .i64 i,.bool (aO g n t)])∧w'=w:=by
 rcases hr with rfl | ⟨b,off,rfl,hr⟩
 ·exact qA a cap t w
 ·exact qz b off n cap g t w hn hr hs
theorem lF (s:ByteArray)(bx:Nat)(a:Option Addr)(n cap:Nat)(g:Nat→ByteArray)(w:World)(hc:w.cell? ⟨bx,0,none⟩=some (.slice a n cap))(hn:(n:Int)≤1048576)(hr:SlStr w a n g)(hs:aY g n=true) :
  Calls Tryz.prog 138 #[.string s,.pointer (some ⟨bx,0,none⟩)] w fun e w'=>e=.returned (.bool (aO g n s))∧w'=w:=by
 have HR:=ae hr
 have HS:=ae hs
 clear hr hs
 go_enter Tryz.func138,Tryz.ntmps138
 go_wp2_with fail
 refine (qB a n cap g s _ hn HR.out HS.out).mono ?_
 rintro e w1 ⟨i,rfl,rfl⟩
 go_wp2
 go_ret
 exact ⟨rfl,rfl⟩
def aW (p:Nat→Bool):Nat→Bool
 | 0=>false
 | k+1=>aW p k || p k
theorem eW {p:Nat→Bool}{k n:Nat}(h:k<n)(hk:p k=true):aW p n=true:=by
 induction n with
 | zero=>omega
 | succ m ih =>
  by_cases e:k=m
  ·subst e;simp [aW,hk]
  ·simp [aW,ih (by omega)]
theorem rX (b off m c:Nat)(h:Nat→ByteArray)(bx:Nat)(a:Option Addr)(n cap:Nat)(g:Nat→ByteArray)(w:World)(hm:(m:Int)≤1048576)(hrow:RowStr w b off m h)(hc:w.cell? ⟨bx,0,none⟩=some (.slice a n cap))(hn:(n:Int)≤1048576)(hr:SlStr w a n g)(hs:aY g n=true) :
  Calls Tryz.prog 189 #[.slice (some ⟨b,off,none⟩) m c,.func (.func 138) #[] #[.pointer (some ⟨bx,0,none⟩)]] w fun e w'=>∃ r:Int,e=.returned (.int .i64 r)∧decide (0≤r)=aW (fun i=>aO g n (h i)) m∧w'=w:=by
 have HW:=ae hrow
 have HR:=ae hr
 have HS:=ae hs
 clear hr hs hrow
 go_enter Tryz.func189,Tryz.ntmps189
 go_wp2
 go_loop [8] (fun i=>∃ k:Nat,k≤m∧i=.int .i64 k∧Hid (aW (fun i=>aO g n (h i)) k=false)) (fun i=>m - (intOf i).toNat)
 case atStart=>exact ⟨0,by omega,rfl,rfl⟩
 case round =>
  obtain ⟨k,hk,rfl,HK⟩:=hrel
  by_cases hlt:k<m
  ·have c0:=HW.out.2 k hlt
   cases hb:aO g n (h k) with
   | true =>
    have HB:=ae hb
    clear hb
    go_wp2_with (go_at_call 138;refine (lF _ bx a n cap g _ hc hn HR.out HS.out).mono ?_;rintro e w1 ⟨rfl,rfl⟩;rw [HB.out])
    go_ret
    exact ⟨k,rfl,by rw [eW hlt HB.out];simp,rfl⟩
   | false =>
    have HB:=ae hb
    clear hb
    go_wp2_with (go_at_call 138;refine (lF _ bx a n cap g _ hc hn HR.out HS.out).mono ?_;rintro e w1 ⟨rfl,rfl⟩;rw [HB.out])
    exact ⟨⟨k+1,by omega,by go_num,by show aW _ (k+1)=false;simp [aW,HK.out,HB.out]⟩,by simp [intOf];omega⟩
  ·have e:k=m:=by omega
   subst e
   go_wp2
   go_ret
   exact ⟨-1,rfl,by rw [HK.out];rfl,rfl⟩
theorem rY (a0:Option Addr)(c:Nat)(fv:Value)(bx:Nat)(hf:fv=.func (.func 138) #[] #[.pointer (some ⟨bx,0,none⟩)])(w:World) :
  Calls Tryz.prog 189 #[.slice a0 0 c,fv] w fun e w'=>∃ r:Int,e=.returned (.int .i64 r)∧decide (0≤r)=false∧w'=w:=by
 subst hf
 go_enter Tryz.func189,Tryz.ntmps189
 go_wp2
 go_loop [8] (fun i=>i=.int .i64 0) (fun _=>0)
 case atStart=>rfl
 case round =>
  subst hrel
  go_wp2
  go_ret
  first
   | exact ⟨-1,rfl,rfl,rfl⟩
   | exact ⟨-1,rfl,by decide,rfl⟩
   | exact ⟨⟨-1,rfl,by decide⟩,rfl⟩
   | exact ⟨-1,by decide,rfl⟩
theorem rZ (a0:Option Addr)(m c:Nat)(h:Nat→ByteArray)(bx:Nat)(a:Option Addr)(n cap:Nat)(g:Nat→ByteArray)(w:World)(hm:(m:Int)≤1048576)(hrow:SlStr w a0 m h)(hc:w.cell? ⟨bx,0,none⟩=some (.slice a n cap))(hn:(n:Int)≤1048576)(hr:SlStr w a n g)(hs:aY g n=true) :
  Calls Tryz.prog 189 #[.slice a0 m c,.func (.func 138) #[] #[.pointer (some ⟨bx,0,none⟩)]] w fun e w'=>∃ r:Int,e=.returned (.int .i64 r)∧decide (0≤r)=aW (fun i=>aO g n (h i)) m∧w'=w:=by
 rcases hrow with rfl | ⟨b,off,rfl,hrow⟩
 ·exact rY a0 c _ bx rfl w
 ·exact rX b off m c h bx a n cap g w hm hrow hc hn hr hs
theorem mX (a0:Option Addr)(m c:Nat)(h:Nat→ByteArray)(bx:Nat)(a:Option Addr)(n cap:Nat)(g:Nat→ByteArray)(w:World)(hm:(m:Int)≤1048576)(hrow:SlStr w a0 m h)(hc:w.cell? ⟨bx,0,none⟩=some (.slice a n cap))(hn:(n:Int)≤1048576)(hr:SlStr w a n g)(hs:aY g n=true) :
  Calls Tryz.prog 137 #[.slice a0 m c,.func (.func 138) #[] #[.pointer (some ⟨bx,0,none⟩)]] w fun e w'=>e=.returned (.bool (aW (fun i=>aO g n (h i)) m))∧w'=w:=by
 have HQ:=ae (rZ a0 m c h bx a n cap g w hm hrow hc hn hr hs)
 obtain ⟨A,hA⟩:∃ A,A=aW (fun i=>aO g n (h i)) m:=⟨_,rfl⟩
 rw [← hA]
 rw [← hA] at HQ
 clear hA hr hs hrow
 go_enter Tryz.func137,Tryz.ntmps137
 go_wp2_with fail
 refine HQ.out.mono ?_
 rintro e w1 ⟨r,rfl,hd,rfl⟩
 have HD:=ae hd
 clear hd
 go_wp2
 go_ret
 exact ⟨aQ HD.out,rfl⟩
theorem tQ (a0:Option Addr)(m c:Nat)(h:Nat→ByteArray)(a:Option Addr)(n cap:Nat)(g:Nat→ByteArray)(w:World)(hm:(m:Int)≤1048576)(hrow:SlStr w a0 m h)(hn:(n:Int)≤1048576)(hr:SlStr w a n g)(hs:aY g n=true) :
  Calls Tryz.prog 69 #[.slice a0 m c,.slice a n cap] w fun e w'=>e=.returned (.bool (aW (fun i=>aO g n (h i)) m))∧Below w.heap.size w w':=by
 have A0:=ae ((Below.refl w.heap.size w).alloc lr (.cells #[.slice a n cap] 39))
 have HQ:=ae (mX a0 m c h w.heap.size a n cap g (w.alloc (.cells #[.slice a n cap] 39)) hm (hrow.below A0.out lr) (by simp) hn (hr.below A0.out lr) hs)
 obtain ⟨A,hA⟩:∃ A,A=aW (fun i=>aO g n (h i)) m:=⟨_,rfl⟩
 rw [← hA]
 rw [← hA] at HQ
 clear hA hr hs hrow
 go_enter Tryz.func69,Tryz.ntmps69
 go_wp2_with fail
 refine HQ.out.mono ?_
 rintro e w1 ⟨rfl,rfl⟩
 go_wp2
 go_ret
 exact ⟨rfl,A0.out⟩
def ed (x:Source):Bool:=decide (2000<(x.text.size:Int))
theorem vu (nm tx:ByteArray)(w:World):Calls Tryz.prog 71 #[.agg #[.string nm,.string tx]] w fun e w'=>e=.returned (.bool (decide (2000<(tx.size:Int))))∧Below w.heap.size w w':=by
 go_enter Tryz.func71,Tryz.ntmps71
 go_wp2
 go_ret
 exact ⟨rfl,br.alloc lr _⟩
theorem qC (b off m c:Nat)(f:Nat→Source)(w:World)(hm:(m:Int)≤1048576)(hrow:RowSource w b off m f) :
  Calls Tryz.prog 140 #[.slice (some ⟨b,off,none⟩) m c,.func (.func 71) #[] #[]] w fun e w'=>∃ r:Int,e=.returned (.int .i64 r)∧decide (0≤r)=aW (fun i=>ed (f i)) m∧Below w.heap.size w w':=by
 have HW:=ae hrow
 clear hrow
 go_enter Tryz.func140,Tryz.ntmps140
 go_wp2
 go_loopw [8] (fun i wr=>∃ k:Nat,k≤m∧i=.int .i64 k∧Hid (aW (fun i=>ed (f i)) k=false)∧Below w.heap.size w wr) (fun i _=>m - (intOf i).toNat)
 case atStart=>exact ⟨0,by omega,rfl,rfl,Below.refl _ _⟩
 case round =>
  obtain ⟨k,hk,rfl,HK,hB⟩:=hrel
  have HB0:=ae hB
  clear hB
  by_cases hlt:k<m
  ·obtain ⟨c0,c1⟩:=(HW.out.2 k hlt).below HB0.out HW.out.1
   go_wp2_with fail
   refine (vu _ _ _).mono ?_
   rintro e w1 ⟨rfl,hB1⟩
   have B1:=ae (HB0.out.trans (hB1.mono HB0.out.size))
   clear hB1
   cases hb:ed (f k) with
   | true =>
    have HB:=ae hb
    have h2:decide (2000<((f k).text.size:Int))=true:=hb
    clear hb
    rw [h2]
    clear h2
    go_wp2
    go_ret
    exact ⟨k,rfl,by rw [eW (p:=fun i=>ed (f i)) hlt HB.out];simp,B1.out⟩
   | false =>
    have HB:=ae hb
    have h2:decide (2000<((f k).text.size:Int))=false:=hb
    clear hb
    rw [h2]
    clear h2
    go_wp2
    exact ⟨⟨k+1,by omega,by go_num,by show aW _ (k+1)=false;simp [aW,HK.out,HB.out],B1.out⟩,by simp [intOf];omega⟩
  ·have e:k=m:=by omega
   subst e
   go_wp2
   go_ret
   exact ⟨-1,rfl,by rw [HK.out];rfl,HB0.out⟩
theorem qD (a0:Option Addr)(c:Nat)(w:World) :
  Calls Tryz.prog 140 #[.slice a0 0 c,.func (.func 71) #[] #[]] w fun e w'=>e=.returned (.int .i64 (-1))∧w'=w:=by
 go_enter Tryz.func140,Tryz.ntmps140
 go_wp2
 go_loop [8] (fun i=>i=.int .i64 0) (fun _=>0)
 case atStart=>rfl
 case round =>
  subst hrel
  go_wp2
  go_ret
  exact ⟨rfl,rfl⟩
theorem qE (a0:Option Addr)(m c:Nat)(f:Nat→Source)(w:World)(hm:(m:Int)≤1048576)(hrow:SlSource w a0 m f) :
  Calls Tryz.prog 140 #[.slice a0 m c,.func (.func 71) #[] #[]] w fun e w'=>∃ r:Int,e=.returned (.int .i64 r)∧decide (0≤r)=aW (fun i=>ed (f i)) m∧Below w.heap.size w w':=by
 rcases hrow with rfl | ⟨b,off,rfl,hrow⟩
 ·exact (qD a0 c w).mono fun e w' ⟨p,q⟩=>⟨-1,p,rfl,by rw [q];exact Below.refl _ _⟩
 ·exact qC b off m c f w hm hrow
theorem mu (a0:Option Addr)(m c:Nat)(f:Nat→Source)(w:World)(hm:(m:Int)≤1048576)(hrow:SlSource w a0 m f) :
  Calls Tryz.prog 70 #[.slice a0 m c,.func (.func 71) #[] #[]] w fun e w'=>e=.returned (.bool (aW (fun i=>ed (f i)) m))∧Below w.heap.size w w':=by
 have HQ:=ae (qE a0 m c f w hm hrow)
 obtain ⟨A,hA⟩:∃ A,A=aW (fun i=>ed (f i)) m:=⟨_,rfl⟩
 rw [← hA]
 rw [← hA] at HQ
 clear hA hrow
 go_enter Tryz.func70,Tryz.ntmps70
 go_wp2_with fail
 refine HQ.out.mono ?_
 rintro e w1 ⟨r,rfl,hd,hB⟩
 have HD:=ae hd
 have HB:=ae hB
 clear hd hB
 go_wp2
 go_ret
 exact ⟨aQ HD.out,HB.out⟩
def cq (x:Target):Bool:=!valid x.act x.actN
theorem vv (nm:ByteArray)(a:Option Addr)(n cap:Nat)(f:Nat→Ins)(w:World)(hn:n≤1048576)(hv:SlIns w a n f)(hT:Tab w):Calls Tryz.prog 73 #[.agg #[.string nm,.slice a n cap]] w fun e w'=>e=.returned (.bool (!valid f n))∧Below w.heap.size w w':=by
 have A0:=ae ((Below.refl w.heap.size w).alloc lr (.cells #[.string nm,.slice a n cap] 104))
 have HQ:=ae (iI a n cap f (w.alloc (.cells #[.string nm,.slice a n cap] 104)) hn (hv.below A0.out lr) (hT.below A0.out hT.1))
 clear hv hT
 go_enter Tryz.func73,Tryz.ntmps73
 go_wp2_with fail
 refine HQ.out.mono ?_
 rintro e w1 ⟨rfl,hB⟩
 have HB:=ae (A0.out.trans (hB.mono (by simp)))
 clear hB
 go_wp2
 go_ret
 exact ⟨rfl,HB.out⟩
theorem qF (b off m c:Nat)(f:Nat→Target)(w:World)(hm:(m:Int)≤1048576)(hfit:∀ i,i<m→bh (f i))(hT:Tab w)(hrow:RowTarget w b off m f) :
  Calls Tryz.prog 141 #[.slice (some ⟨b,off,none⟩) m c,.func (.func 73) #[] #[]] w fun e w'=>∃ r:Int,e=.returned (.int .i64 r)∧decide (0≤r)=aW (fun i=>cq (f i)) m∧Below w.heap.size w w':=by
 have HW:=ae hrow
 have HF:=ae hfit
 have HT:=ae hT
 clear hrow hfit hT
 go_enter Tryz.func141,Tryz.ntmps141
 go_wp2
 go_loopw [8] (fun i wr=>∃ k:Nat,k≤m∧i=.int .i64 k∧Hid (aW (fun i=>cq (f i)) k=false)∧Below w.heap.size w wr) (fun i _=>m - (intOf i).toNat)
 case atStart=>exact ⟨0,by omega,rfl,rfl,Below.refl _ _⟩
 case round =>
  obtain ⟨k,hk,rfl,HK,hB⟩:=hrel
  have HB0:=ae hB
  clear hB
  by_cases hlt:k<m
  ·obtain ⟨c0,ka,kc,c1,hk1⟩:=(HW.out.2 k hlt).below HB0.out lr HW.out.1
   have HK1:=ae hk1
   clear hk1
   go_wp2_with fail
   refine (vv (f k).name ka (f k).actN kc (f k).act _ (HF.out k hlt) HK1.out (HT.out.below HB0.out HT.out.1)).mono ?_
   rintro e w1 ⟨rfl,hB1⟩
   have B1:=ae (HB0.out.trans (hB1.mono HB0.out.size))
   clear hB1
   cases hb:cq (f k) with
   | true =>
    have HB:=ae hb
    have h2:(!valid (f k).act (f k).actN)=true:=hb
    clear hb
    rw [h2]
    clear h2
    go_wp2
    go_ret
    exact ⟨k,rfl,by rw [eW (p:=fun i=>cq (f i)) hlt HB.out];simp,B1.out⟩
   | false =>
    have HB:=ae hb
    have h2:(!valid (f k).act (f k).actN)=false:=hb
    clear hb
    rw [h2]
    clear h2
    go_wp2
    exact ⟨⟨k+1,by omega,by go_num,by show aW _ (k+1)=false;simp [aW,HK.out,HB.out],B1.out⟩,by simp [intOf];omega⟩
  ·have e:k=m:=by omega
   subst e
   go_wp2
   go_ret
   exact ⟨-1,rfl,by rw [HK.out];rfl,HB0.out⟩
theorem qG (a0:Option Addr)(c:Nat)(w:World) :
  Calls Tryz.prog 141 #[.slice a0 0 c,.func (.func 73) #[] #[]] w fun e w'=>e=.returned (.int .i64 (-1))∧w'=w:=by
 go_enter Tryz.func141,Tryz.ntmps141
 go_wp2
 go_loop [8] (fun i=>i=.int .i64 0) (fun _=>0)
 case atStart=>rfl
 case round =>
  subst hrel
  go_wp2
  go_ret
  exact ⟨rfl,rfl⟩
theorem qH (a0:Option Addr)(m c:Nat)(f:Nat→Target)(w:World)(hm:(m:Int)≤1048576)(hfit:∀ i,i<m→bh (f i))(hT:Tab w)(hrow:SlTarget w a0 m f) :
  Calls Tryz.prog 141 #[.slice a0 m c,.func (.func 73) #[] #[]] w fun e w'=>∃ r:Int,e=.returned (.int .i64 r)∧decide (0≤r)=aW (fun i=>cq (f i)) m∧Below w.heap.size w w':=by
 rcases hrow with rfl | ⟨b,off,rfl,hrow⟩
 ·exact (qG a0 c w).mono fun e w' ⟨p,q⟩=>⟨-1,p,rfl,by rw [q];exact Below.refl _ _⟩
 ·exact qF b off m c f w hm hfit hT hrow
theorem mw (a0:Option Addr)(m c:Nat)(f:Nat→Target)(w:World)(hm:(m:Int)≤1048576)(hfit:∀ i,i<m→bh (f i))(hT:Tab w)(hrow:SlTarget w a0 m f) :
  Calls Tryz.prog 72 #[.slice a0 m c,.func (.func 73) #[] #[]] w fun e w'=>e=.returned (.bool (aW (fun i=>cq (f i)) m))∧Below w.heap.size w w':=by
 have HQ:=ae (qH a0 m c f w hm hfit hT hrow)
 obtain ⟨A,hA⟩:∃ A,A=aW (fun i=>cq (f i)) m:=⟨_,rfl⟩
 rw [← hA]
 rw [← hA] at HQ
 clear hA hrow hfit hT
 go_enter Tryz.func72,Tryz.ntmps72
 go_wp2_with fail
 refine HQ.out.mono ?_
 rintro e w1 ⟨r,rfl,hd,hB⟩
 have HD:=ae hd
 have HB:=ae hB
 clear hd hB
 go_wp2
 go_ret
 exact ⟨aQ HD.out,HB.out⟩
theorem mx (a:Option Addr)(cap:Nat)(w:World):Calls Tryz.prog 68 #[.slice a 0 cap] w fun e w'=>e=.returned (.bool true)∧w'=w:=by
 go_enter Tryz.func68,Tryz.ntmps68
 go_wp2
 go_loop [3] (fun i=>i=.int .i64 1) (fun _=>0)
 case atStart=>rfl
 case round =>
  subst hrel
  go_wp2
  go_ret
  exact ⟨rfl,rfl⟩
theorem iC (a:Option Addr)(n cap:Nat)(g:Nat→ByteArray)(w:World)(hn:(n:Int)≤1048576)(hr:SlStr w a n g) :
  Calls Tryz.prog 68 #[.slice a n cap] w fun e w'=>e=.returned (.bool (aY g n))∧Below w.heap.size w w':=by
 rcases hr with rfl | ⟨b,off,rfl,hr⟩
 ·exact (mx a cap w).mono fun e w' ⟨p,q⟩=>⟨p,by rw [q];exact Below.refl _ _⟩
 ·exact mq b off n cap g w hn hr
abbrev nm0 (f0:Nat→Source):Nat→ByteArray:=fun i=>(f0 i).name
abbrev nm1 (f1:Nat→Target):Nat→ByteArray:=fun i=>(f1 i).name
def bX (n0:Nat)(f0:Nat→Source)(n1:Nat)(f1:Nat→Target):Int :=
 if 200<n0+n1 then 1 else if bH (nm0 f0) n0=false then 2 else if bH (nm1 f1) n1=false then 2 else if aY (nm0 f0) n0=false then 3 else if aY (nm1 f1) n1=false then 4
 else if aW (fun i=>aO (nm1 f1) n1 (nm0 f0 i)) n0=true then 5 else if aW (fun i=>ed (f0 i)) n0=true then 6 else if aW (fun i=>cq (f1 i)) n1=true then 7 else 0
theorem fF (a0:Option Addr)(n0 c0:Nat)(f0:Nat→Source)(a1:Option Addr)(n1 c1:Nat)(f1:Nat→Target)(w:World)(hn0:(n0:Int)≤1048576)(hn1:(n1:Int)≤1048576)(hv0:SlSource w a0 n0 f0)(hv1:SlTarget w a1 n1 f1)(hfit:∀ i,i<n1→bh (f1 i))(hT:Tab w) :
  Calls Tryz.prog 13 #[.agg #[.slice a0 n0 c0,.slice a1 n1 c1]] w fun e w'=>e=.returned (.int .i64 (bX n0 f0 n1 f1))∧Below w.heap.size w w':=by
 have V0:=ae hv0
 have V1:=ae hv1
 have HF:=ae hfit
 have HT:=ae hT
 clear hv0 hv1 hfit hT
 obtain ⟨C,hC⟩:∃ C,C=bX n0 f0 n1 f1:=⟨_,rfl⟩
 rw [← hC]
 unfold bX at hC
 have HC:=ae hC
 clear hC
 have A0:=ae ((Below.refl w.heap.size w).alloc lr (.cells #[.slice a0 n0 c0,.slice a1 n1 c1] 26))
 go_enter Tryz.func13,Tryz.ntmps13
 go_wp2_with fail
 refine (qt a0 a1 n0 c0 n1 c1 _ hn0 hn1).mono ?_
 rintro e w1 ⟨rfl,hB⟩
 have k0:w1.cell? ⟨w.heap.size,0,none⟩=some (.slice a0 n0 c0):=(hB.cell (p:=⟨w.heap.size,0,none⟩) (by simp)).trans (by simp)
 have k1:w1.cell? ⟨w.heap.size,1,none⟩=some (.slice a1 n1 c1):=(hB.cell (p:=⟨w.heap.size,1,none⟩) (by simp)).trans (by simp)
 have z1:w.heap.size<w1.heap.size:=by have:=hB.size;simp at this;omega
 have B1:=ae (A0.out.trans (hB.mono (by simp)))
 clear hB A0
 by_cases h1:(200:Int)<n0+n1
 ·have hc:=HC.out
  rw [if_pos (by omega)] at hc
  subst hc
  go_wp2
  go_ret
  exact ⟨rfl,B1.out⟩
 have hc1:=HC.out
 rw [if_neg (by omega)] at hc1
 have HC1:=ae hc1
 clear hc1 HC
 go_wp2_with fail
 go_region_with (first
  | (go_at_call 65;refine (jX a0 n0 c0 a1 n1 c1 f0 _ hn0 ?_).mono ?_;(first | exact V0.out.below B1.out lr | exact V0.out.below B1.out.drew lr);rintro e w2 ⟨sa,sc,rfl,hs2,hB2⟩;have S2:=ae hs2;have D2:Hid (Below w1.heap.size w1 w2):=⟨hB2.os,hB2.tape,hB2.output,hB2.size,hB2.block⟩;have B2:=ae (B1.out.trans (D2.out.mono B1.out.size));have k20:=(D2.out.cell (p:=⟨w.heap.size,0,none⟩) z1).trans k0;have k21:=(D2.out.cell (p:=⟨w.heap.size,1,none⟩) z1).trans k1;have z2:w.heap.size<w2.heap.size:=ll z1 D2.out.size;clear hs2 hB2)
  | (go_at_call 66;refine (j7 a1 n1 c1 a0 n0 c0 f1 _ hn1 ?_).mono ?_;exact V1.out.below B2.out lr ;rintro e w3 ⟨ta,tc,rfl,hs3,hB3⟩;have S3:=ae hs3;have R3:=ae (S2.out.below hB3 lr);have B3:=ae (B2.out.trans (hB3.mono B2.out.size));have k30:=(hB3.cell (p:=⟨w.heap.size,0,none⟩) z2).trans k20;have k31:=(hB3.cell (p:=⟨w.heap.size,1,none⟩) z2).trans k21;have z3:w.heap.size<w3.heap.size:=ll z2 hB3.size;clear hs3 hB3))
 all_goals
  clear k0 k1 k20 k21
  go_wp2_with fail
  refine (iK sa n0 sc (nm0 f0) _ hn0 R3.out).mono ?_
  rintro e w4 ⟨rfl,hB4⟩
  have B4:=ae (B3.out.trans (hB4.mono B3.out.size))
  have R4:=ae (R3.out.below hB4 lr)
  have S4:=ae (S3.out.below hB4 lr)
  have k40:=(hB4.cell (p:=⟨w.heap.size,0,none⟩) z3).trans k30
  have k41:=(hB4.cell (p:=⟨w.heap.size,1,none⟩) z3).trans k31
  have z4:w.heap.size<w4.heap.size:=ll z3 hB4.size
  clear hB4 k30 k31
  cases q0:bH (nm0 f0) n0 with
  | false =>
   have hc:=HC1.out
   rw [if_pos q0] at hc
   subst hc
   clear q0
   go_wp2
   go_ret
   exact ⟨rfl,B4.out⟩
  | true =>
   have hc:=HC1.out
   rw [if_neg (by simp [q0])] at hc
   have HC2:=ae hc
   clear hc q0
   go_wp2_with fail
   refine (iK ta n1 tc (nm1 f1) _ hn1 S4.out).mono ?_
   rintro e w5 ⟨rfl,hB5⟩
   have B5:=ae (B4.out.trans (hB5.mono B4.out.size))
   have R5:=ae (R4.out.below hB5 lr)
   have S5:=ae (S4.out.below hB5 lr)
   have k50:=(hB5.cell (p:=⟨w.heap.size,0,none⟩) z4).trans k40
   have k51:=(hB5.cell (p:=⟨w.heap.size,1,none⟩) z4).trans k41
   have z5:w.heap.size<w5.heap.size:=ll z4 hB5.size
   clear hB5 k40 k41
   cases q1:bH (nm1 f1) n1 with
   | false =>
    have hc:=HC2.out
    rw [if_pos q1] at hc
    subst hc
    clear q1
    go_wp2
    go_ret
    exact ⟨rfl,B5.out⟩
   | true =>
    have hc:=HC2.out
    rw [if_neg (by simp [q1])] at hc
    have HC3:=ae hc
    clear hc q1
    go_wp2_with fail
    refine (iC sa n0 sc (nm0 f0) _ hn0 R5.out).mono ?_
    rintro e w6 ⟨rfl,hB6⟩
    have B6:=ae (B5.out.trans (hB6.mono B5.out.size))
    have R6:=ae (R5.out.below hB6 lr)
    have S6:=ae (S5.out.below hB6 lr)
    have k60:=(hB6.cell (p:=⟨w.heap.size,0,none⟩) z5).trans k50
    have k61:=(hB6.cell (p:=⟨w.heap.size,1,none⟩) z5).trans k51
    have z6:w.heap.size<w6.heap.size:=ll z5 hB6.size
    clear hB6 k50 k51
    cases q2:aY (nm0 f0) n0 with
    | false =>
     have hc:=HC3.out
     rw [if_pos q2] at hc
     subst hc
     clear q2
     go_wp2
     go_ret
     exact ⟨rfl,B6.out⟩
    | true =>
     have hc:=HC3.out
     rw [if_neg (by simp [q2])] at hc
     have HC4:=ae hc
     clear hc q2
     go_wp2_with fail
     refine (iC ta n1 tc (nm1 f1) _ hn1 S6.out).mono ?_
     rintro e w7 ⟨rfl,hB7⟩
     have B7:=ae (B6.out.trans (hB7.mono B6.out.size))
     have R7:=ae (R6.out.below hB7 lr)
     have S7:=ae (S6.out.below hB7 lr)
     have k70:=(hB7.cell (p:=⟨w.heap.size,0,none⟩) z6).trans k60
     have k71:=(hB7.cell (p:=⟨w.heap.size,1,none⟩) z6).trans k61
     have z7:w.heap.size<w7.heap.size:=ll z6 hB7.size
     clear hB7 k60 k61
     cases q3:aY (nm1 f1) n1 with
     | false =>
      have hc:=HC4.out
      rw [if_pos q3] at hc
      subst hc
      clear q3
      go_wp2
      go_ret
      exact ⟨rfl,B7.out⟩
     | true =>
      have hc:=HC4.out
      rw [if_neg (by simp [q3])] at hc
      have ASC:=ae q3
      have HC5:=ae hc
      clear hc q3
      go_wp2_with fail
      refine (tQ sa n0 sc (nm0 f0) ta n1 tc (nm1 f1) _ hn0 R7.out hn1 S7.out ASC.out).mono ?_
      rintro e w8 ⟨rfl,hB8⟩
      have B8:=ae (B7.out.trans (hB8.mono B7.out.size))
      have R8:=ae (R7.out.below hB8 lr)
      have S8:=ae (S7.out.below hB8 lr)
      have k80:=(hB8.cell (p:=⟨w.heap.size,0,none⟩) z7).trans k70
      have k81:=(hB8.cell (p:=⟨w.heap.size,1,none⟩) z7).trans k71
      have z8:w.heap.size<w8.heap.size:=ll z7 hB8.size
      clear hB8 k70 k71
      cases q4:aW (fun i=>aO (nm1 f1) n1 (nm0 f0 i)) n0 with
      | true =>
       have hc:=HC5.out
       rw [if_pos q4] at hc
       subst hc
       clear q4
       go_wp2
       go_ret
       exact ⟨rfl,B8.out⟩
      | false =>
       have hc:=HC5.out
       rw [if_neg (by simp [q4])] at hc
       have HC6:=ae hc
       clear hc q4
       go_wp2_with fail
       refine (mu a0 n0 c0 f0 _ hn0 (V0.out.below B8.out lr)).mono ?_
       rintro e w9 ⟨rfl,hB9⟩
       have B9:=ae (B8.out.trans (hB9.mono B8.out.size))
       have R9:=ae (R8.out.below hB9 lr)
       have S9:=ae (S8.out.below hB9 lr)
       have k90:=(hB9.cell (p:=⟨w.heap.size,0,none⟩) z8).trans k80
       have k91:=(hB9.cell (p:=⟨w.heap.size,1,none⟩) z8).trans k81
       have z9:w.heap.size<w9.heap.size:=ll z8 hB9.size
       clear hB9 k80 k81
       cases q5:aW (fun i=>ed (f0 i)) n0 with
       | true =>
        have hc:=HC6.out
        rw [if_pos q5] at hc
        subst hc
        clear q5
        go_wp2
        go_ret
        exact ⟨rfl,B9.out⟩
       | false =>
        have hc:=HC6.out
        rw [if_neg (by simp [q5])] at hc
        have HC7:=ae hc
        clear hc q5
        go_wp2_with fail
        refine (mw a1 n1 c1 f1 _ hn1 HF.out (HT.out.below B9.out HT.out.1) (V1.out.below B9.out lr)).mono ?_
        rintro e w10 ⟨rfl,hB10⟩
        have B10:=ae (B9.out.trans (hB10.mono B9.out.size))
        have R10:=ae (R9.out.below hB10 lr)
        have S10:=ae (S9.out.below hB10 lr)
        have k100:=(hB10.cell (p:=⟨w.heap.size,0,none⟩) z9).trans k90
        have k101:=(hB10.cell (p:=⟨w.heap.size,1,none⟩) z9).trans k91
        have z10:w.heap.size<w10.heap.size:=ll z9 hB10.size
        clear hB10 k90 k91
        cases q6:aW (fun i=>cq (f1 i)) n1 with
        | true =>
         have hc:=HC7.out
         rw [if_pos q6] at hc
         subst hc
         clear q6
         go_wp2
         go_ret
         exact ⟨rfl,B10.out⟩
        | false =>
         have hc:=HC7.out
         rw [if_neg (by simp [q6])] at hc
         subst hc
         clear q6
         go_wp2
         go_ret
         exact ⟨rfl,B10.out⟩
theorem iM (g:Nat→ByteArray)(k:Nat)(t:ByteArray):aO g (k+1) t=(aO g k t || ((g k).toList == t.toList)):=by simp [aO,List.range_succ]
theorem lG {g:Nat→ByteArray}{k n:Nat}{t:ByteArray}(h:k<n)(hk:((g k).toList == t.toList)=true):aO g n t=true:=by
 simp only [aO,List.any_eq_true,List.mem_range]
 exact ⟨k,h,hk⟩
theorem mY (a0:Option Addr)(n0 c0 b off n1 c1:Nat)(f1:Nat→Target)(t:ByteArray)(w:World)(hn1:(n1:Int)≤1048576)(hv1:RowTarget w b off n1 f1) :
  Calls Tryz.prog 85 #[.agg #[.slice a0 n0 c0,.slice (some ⟨b,off,none⟩) n1 c1],.string t] w fun e w'=>∃ r:Int,e=.returned (.int .i64 r)∧decide (0≤r)=aO (nm1 f1) n1 t∧Below w.heap.size w w':=by
 have A0:=ae ((Below.refl w.heap.size w).alloc lr (.cells #[.slice a0 n0 c0,.slice (some ⟨b,off,none⟩) n1 c1] 26))
 have V1:=ae (hv1.below A0.out lr)
 have k1:(w.alloc (.cells #[.slice a0 n0 c0,.slice (some ⟨b,off,none⟩) n1 c1] 26)).cell? ⟨w.heap.size,1,none⟩=some (.slice (some ⟨b,off,none⟩) n1 c1):=by simp
 clear hv1
 go_enter Tryz.func85,Tryz.ntmps85
 go_wp2
 generalize w.alloc (.cells #[.slice a0 n0 c0,.slice (some ⟨b,off,none⟩) n1 c1] 26)=W at A0 V1 k1 ⊢
 go_loop [5] (fun i=>∃ k:Nat,k≤n1∧i=.int .i64 k∧Hid (aO (nm1 f1) k t=false)) (fun i=>n1 - (intOf i).toNat)
 case atStart=>exact ⟨0,by omega,rfl,rfl⟩
 case round =>
  obtain ⟨k,hk,rfl,HK⟩:=hrel
  by_cases hlt:k<n1
  ·obtain ⟨d0,ka,kc,d1,_⟩:=V1.out.2 k hlt
   cases hb:((f1 k).name.toList == t.toList) with
   | true =>
    have HB:=ae hb
    go_wp2
    go_ret
    exact ⟨k,rfl,by rw [lG (g:=nm1 f1) hlt HB.out];simp,A0.out⟩
   | false =>
    have HB:=ae hb
    go_wp2
    exact ⟨⟨k+1,by omega,by go_num,by show aO (nm1 f1) (k+1) t=false;rw [iM,HK.out];exact HB.out⟩,by simp [intOf];omega⟩
  ·have e:k=n1:=by omega
   subst e
   go_wp2
   go_ret
   exact ⟨-1,rfl,by rw [HK.out];rfl,A0.out⟩
theorem mZ {a b:ByteArray}(h:a.toList=b.toList):a=b:=by
 rw [ByteArray.toList_eq,ByteArray.toList_eq] at h
 exact ByteArray.ext (Array.toList_inj.1 h)
theorem bytes_beq {a b:ByteArray}(h:(a.toList == b.toList)=true):a=b:=mZ (by simpa using h)
theorem asc_one {g:Nat→ByteArray}{n i j:Nat}{t:ByteArray}(hs:aY g n=true)(hi:i<n)(hj:j<n)(h1:((g i).toList == t.toList)=true)(h2:((g j).toList == t.toList)=true):i=j:=by
 have e1:=bytes_beq h1
 have e2:=bytes_beq h2
 rcases Nat.lt_trichotomy i j with h | h | h
 ·have:=eV hs h hj
  rw [e1,e2,eU] at this
  cases this
 ·exact h
 ·have:=eV hs h hi
  rw [e1,e2,eU] at this
  cases this
theorem r8 {n0:Nat}{f0:Nat→Source}{n1:Nat}{f1:Nat→Target}(h:bX n0 f0 n1 f1=0):aY (nm0 f0) n0=true∧aY (nm1 f1) n1=true∧n0+n1≤200:=by
 unfold bX at h
 split at h;· omega
 split at h;· omega
 split at h;· omega
 split at h;· omega
 split at h;· omega
 rename_i h0 _ _ h3 h4
 exact ⟨by simpa using h3,by simpa using h4,by omega⟩
theorem slS {w:World}{a:Option Addr}{n:Nat}{f:Nat→Source}(h:SlSource w a n f)(hn:n≠0):∃ b off,a=some ⟨b,off,none⟩∧RowSource w b off n f:=h.resolve_left hn
theorem slT {w:World}{a:Option Addr}{n:Nat}{f:Nat→Target}(h:SlTarget w a n f)(hn:n≠0):∃ b off,a=some ⟨b,off,none⟩∧RowTarget w b off n f:=h.resolve_left hn
theorem nd (a0:Option Addr)(n0 c0:Nat)(a1:Option Addr)(c1:Nat)(g:Nat→ByteArray)(t:ByteArray)(w:World) :
  Calls Tryz.prog 85 #[.agg #[.slice a0 n0 c0,.slice a1 0 c1],.string t] w fun e w'=>∃ r:Int,e=.returned (.int .i64 r)∧decide (0≤r)=aO g 0 t∧Below w.heap.size w w':=by
 have A0:=ae ((Below.refl w.heap.size w).alloc lr (.cells #[.slice a0 n0 c0,.slice a1 0 c1] 26))
 go_enter Tryz.func85,Tryz.ntmps85
 go_wp2
 go_loop [5] (fun i=>i=.int .i64 0) (fun _=>0)
 case atStart=>rfl
 case round =>
  subst hrel
  go_wp2
  go_ret
  exact ⟨-1,rfl,by rw [iL];rfl,A0.out⟩
theorem nf (a0:Option Addr)(n0 c0:Nat)(a1:Option Addr)(n1 c1:Nat)(f1:Nat→Target)(t:ByteArray)(w:World)(hn1:(n1:Int)≤1048576)(hv1:SlTarget w a1 n1 f1) :
  Calls Tryz.prog 85 #[.agg #[.slice a0 n0 c0,.slice a1 n1 c1],.string t] w fun e w'=>∃ r:Int,e=.returned (.int .i64 r)∧decide (0≤r)=aO (nm1 f1) n1 t∧Below w.heap.size w w':=by
 rcases hv1 with rfl | ⟨b,off,rfl,hr⟩
 ·exact nd a0 n0 c0 a1 c1 (nm1 f1) t w
 ·exact mY a0 n0 c0 b off n1 c1 f1 t w hn1 hr
theorem iD (a0:Option Addr)(n0 c0:Nat)(f0:Nat→Source)(a1:Option Addr)(n1 c1:Nat)(f1:Nat→Target)(w:World)(hn0:(n0:Int)≤1048576)(hn1:(n1:Int)≤1048576)(hv0:SlSource w a0 n0 f0)(hv1:SlTarget w a1 n1 f1)(hfit:∀ i,i<n1→bh (f1 i))(hs:∀ i,i<n1→∀ j,j<(f1 i).actN→((f1 i).act j).s.size≤maxLen) :
  Calls Tryz.prog 60 #[.agg #[.slice a0 n0 c0,.slice a1 n1 c1]] w fun e w'=>e=.returned (.int .i64 (bX n0 f0 n1 f1))∧Below w.heap.size w w':=by
 have V0:=ae hv0
 have V1:=ae hv1
 have HF:=ae hfit
 have HS:=ae hs
 clear hv0 hv1 hfit hs
 obtain ⟨C,hC⟩:∃ C,C=bX n0 f0 n1 f1:=⟨_,rfl⟩
 rw [← hC]
 unfold bX at hC
 have HC:=ae hC
 clear hC
 have A0:=ae ((Below.refl w.heap.size w).alloc lr (.cells #[.slice a0 n0 c0,.slice a1 n1 c1] 26))
 have k00:(w.alloc (.cells #[.slice a0 n0 c0,.slice a1 n1 c1] 26)).cell? ⟨w.heap.size,0,none⟩=some (.slice a0 n0 c0):=by simp
 have k01:(w.alloc (.cells #[.slice a0 n0 c0,.slice a1 n1 c1] 26)).cell? ⟨w.heap.size,1,none⟩=some (.slice a1 n1 c1):=by simp
 have z0:w.heap.size<(w.alloc (.cells #[.slice a0 n0 c0,.slice a1 n1 c1] 26)).heap.size:=by simp
 go_enter Tryz.func60,Tryz.ntmps60
 by_cases h1:(200:Int)<n0+n1
 ·have hc:=HC.out
  rw [if_pos (by omega)] at hc
  subst hc
  go_wp2
  go_ret
  exact ⟨rfl,A0.out⟩
 have hc1:=HC.out
 rw [if_neg (by omega)] at hc1
 have HC1:=ae hc1
 clear hc1 HC
 go_wp2
 generalize w.alloc (.cells #[.slice a0 n0 c0,.slice a1 n1 c1] 26)=W0 at A0 k00 k01 z0 ⊢
 go_loopw [5] (fun i wr=>∃ k:Nat,k≤n0∧i=.int .i64 k∧Hid (bH (nm0 f0) k=true)∧Below W0.heap.size W0 wr) (fun i _=>n0 - (intOf i).toNat)
 case atStart=>exact ⟨0,by omega,rfl,rfl,Below.refl _ _⟩
 case round =>
  obtain ⟨k,hk,rfl,HK,hB⟩:=hrel
  have k10:=(hB.cell (p:=⟨w.heap.size,0,none⟩) z0).trans k00
  have k11:=(hB.cell (p:=⟨w.heap.size,1,none⟩) z0).trans k01
  have z1:w.heap.size<wr.heap.size:=ll z0 hB.size
  have HB:=ae hB
  have A1:=ae (A0.out.trans (hB.mono A0.out.size))
  clear hB
  by_cases hlt:k<n0
  ·obtain ⟨b,off,rfl,hr⟩:=slS V0.out (by omega)
   obtain ⟨d0,d1⟩:=(hr.2 k hlt).below A1.out hr.1
   clear hr k00 k01
   go_wp2_with fail
   refine (bN _ _).mono ?_
   rintro e w1 ⟨rfl,hB1⟩
   have B1:=ae (HB.out.trans (hB1.mono HB.out.size))
   clear hB1
   cases hq:au (f0 k).name with
   | true =>
    have HQ:=ae hq
    clear hq
    go_wp2
    exact ⟨⟨k+1,by omega,by go_num,by show bH (nm0 f0) (k+1)=true;simp [bH,HK.out,HQ.out],B1.out⟩,by simp [intOf];omega⟩
   | false =>
    have HQ:=ae hq
    have hc:=HC1.out
    rw [if_pos (fE (g:=(nm0 f0)) hlt HQ.out)] at hc
    subst hc
    clear hq
    go_wp2
    go_ret
    exact ⟨rfl,A0.out.trans (B1.out.mono A0.out.size)⟩
  ·have e:n0=k:=by omega
   subst e
   have hc:=HC1.out
   rw [if_neg (by simp [HK.out])] at hc
   have HC2:=ae hc
   clear hc HC1 HK HB k00 k01
   go_wp2
   generalize wr=W1 at k10 k11 z1 A1 ⊢
   go_loopw [6] (fun i wr=>∃ k:Nat,k≤n1∧i=.int .i64 k∧Hid (bH (nm1 f1) k=true)∧Below W1.heap.size W1 wr) (fun i _=>n1 - (intOf i).toNat)
   case atStart=>exact ⟨0,by omega,rfl,rfl,Below.refl _ _⟩
   case round =>
    obtain ⟨k,hk,rfl,HK,hB⟩:=hrel
    have k20:=(hB.cell (p:=⟨w.heap.size,0,none⟩) z1).trans k10
    have k21:=(hB.cell (p:=⟨w.heap.size,1,none⟩) z1).trans k11
    have z2:w.heap.size<wr.heap.size:=ll z1 hB.size
    have HB:=ae hB
    have A2:=ae (A1.out.trans (hB.mono A1.out.size))
    clear hB
    by_cases hlt:k<n1
    ·obtain ⟨b,off,rfl,hr⟩:=slT V1.out (by omega)
     obtain ⟨d0,ka,kc,d1,_⟩:=(hr.2 k hlt).below A2.out lr hr.1
     clear hr k10 k11
     go_wp2_with fail
     refine (bN _ _).mono ?_
     rintro e w1 ⟨rfl,hB1⟩
     have B1:=ae (HB.out.trans (hB1.mono HB.out.size))
     clear hB1
     cases hq:au (f1 k).name with
     | true =>
      have HQ:=ae hq
      clear hq
      go_wp2
      exact ⟨⟨k+1,by omega,by go_num,by show bH (nm1 f1) (k+1)=true;simp [bH,HK.out,HQ.out],B1.out⟩,by simp [intOf];omega⟩
     | false =>
      have HQ:=ae hq
      have hc:=HC2.out
      rw [if_pos (fE (g:=(nm1 f1)) hlt HQ.out)] at hc
      subst hc
      clear hq
      go_wp2
      go_ret
      exact ⟨rfl,A1.out.trans (B1.out.mono A1.out.size)⟩
    ·have e:n1=k:=by omega
     subst e
     have hc:=HC2.out
     rw [if_neg (by simp [HK.out])] at hc
     have HC3:=ae hc
     clear hc HC2 HK HB k10 k11
     go_wp2
     generalize wr=W2 at k20 k21 z2 A2 ⊢
     go_loopw [7] (fun i wr=>∃ k:Nat,(k+1≤n0∨k=0)∧i=.int .i64 ((k:Int)+1)∧Hid (aY (nm0 f0) (k+1)=true)∧Below W2.heap.size W2 wr) (fun i _=>n0+1 - (intOf i).toNat)
     case atStart=>exact ⟨0,.inr rfl,rfl,rfl,Below.refl _ _⟩
     case round =>
      obtain ⟨k,hk,rfl,HK,hB⟩:=hrel
      have k30:=(hB.cell (p:=⟨w.heap.size,0,none⟩) z2).trans k20
      have k31:=(hB.cell (p:=⟨w.heap.size,1,none⟩) z2).trans k21
      have z3:w.heap.size<wr.heap.size:=ll z2 hB.size
      have HB:=ae hB
      have A3:=ae (A2.out.trans (hB.mono A2.out.size))
      clear hB
      by_cases hlt:k+1<n0
      ·obtain ⟨b,off,rfl,hr⟩:=slS V0.out (by omega)
       obtain ⟨d0,d1⟩:=(hr.2 k (by omega)).below A3.out hr.1
       obtain ⟨e0,e1⟩:=(hr.2 (k+1) hlt).below A3.out hr.1
       have hlt':(k:Int)+1<n0:=by omega
       clear hr k20 k21
       go_wp2_with fail
       go_quiet (fail)
       have B1:=ae (below_drewN HB.out nq)
       clear d0 d1 e0 e1
       generalize wr.drewN nq=X at B1 ⊢
       cases hq:Op.bytesLess (f0 k).name.toList (f0 (k+1)).name.toList with
       | true =>
        have HQ:=ae hq
        clear hq
        go_wp2
        exact ⟨⟨k+1,.inl (by omega),by go_num,by show aY (nm0 f0) (k+2)=true;simp [aY,HK.out,HQ.out],B1.out⟩,by simp [intOf];omega⟩
       | false =>
        have HQ:=ae hq
        have hc:=HC3.out
        rw [if_pos (gA (g:=(nm0 f0)) hlt HQ.out)] at hc
        subst hc
        clear hq
        go_wp2
        go_ret
        exact ⟨rfl,A2.out.trans (B1.out.mono A2.out.size)⟩
      ·have hge:¬ (k:Int)+1<n0:=by omega
       have hc:=HC3.out
       rw [if_neg (by simp [eQ (show n0≤k+1 by omega) HK.out])] at hc
       have HC4:=ae hc
       clear hc HC3 HK HB k20 k21
       go_wp2
       generalize wr=W3 at k30 k31 z3 A3 ⊢
       go_loopw [8] (fun i wr=>∃ k:Nat,(k+1≤n1∨k=0)∧i=.int .i64 ((k:Int)+1)∧Hid (aY (nm1 f1) (k+1)=true)∧Below W3.heap.size W3 wr) (fun i _=>n1+1 - (intOf i).toNat)
       case atStart=>exact ⟨0,.inr rfl,rfl,rfl,Below.refl _ _⟩
       case round =>
        obtain ⟨k,hk,rfl,HK,hB⟩:=hrel
        have k40:=(hB.cell (p:=⟨w.heap.size,0,none⟩) z3).trans k30
        have k41:=(hB.cell (p:=⟨w.heap.size,1,none⟩) z3).trans k31
        have z4:w.heap.size<wr.heap.size:=ll z3 hB.size
        have HB:=ae hB
        have A4:=ae (A3.out.trans (hB.mono A3.out.size))
        clear hB
        by_cases hlt:k+1<n1
        ·obtain ⟨b,off,rfl,hr⟩:=slT V1.out (by omega)
         obtain ⟨d0,ka,kc,d1,_⟩:=(hr.2 k (by omega)).below A4.out lr hr.1
         obtain ⟨e0,kb,kd,e1,_⟩:=(hr.2 (k+1) hlt).below A4.out lr hr.1
         have hlt':(k:Int)+1<n1:=by omega
         clear hr k30 k31
         go_wp2_with fail
         go_quiet (fail)
         have B1:=ae (below_drewN HB.out nq)
         clear d0 d1 e0 e1
         generalize wr.drewN nq=X at B1 ⊢
         cases hq:Op.bytesLess (f1 k).name.toList (f1 (k+1)).name.toList with
         | true =>
          have HQ:=ae hq
          clear hq
          go_wp2
          exact ⟨⟨k+1,.inl (by omega),by go_num,by show aY (nm1 f1) (k+2)=true;simp [aY,HK.out,HQ.out],B1.out⟩,by simp [intOf];omega⟩
         | false =>
          have HQ:=ae hq
          have hc:=HC4.out
          rw [if_pos (gA (g:=(nm1 f1)) hlt HQ.out)] at hc
          subst hc
          clear hq
          go_wp2
          go_ret
          exact ⟨rfl,A3.out.trans (B1.out.mono A3.out.size)⟩
        ·have hge:¬ (k:Int)+1<n1:=by omega
         have hc:=HC4.out
         rw [if_neg (by simp [eQ (show n1≤k+1 by omega) HK.out])] at hc
         have HC5:=ae hc
         clear hc HC4 HK HB k30 k31
         go_wp2
         generalize wr=W4 at k40 k41 z4 A4 ⊢
         go_loopw [9] (fun i wr=>∃ k:Nat,k≤n0∧i=.int .i64 k∧Hid (aW (fun i=>aO (nm1 f1) n1 (nm0 f0 i)) k=false)∧Below W4.heap.size W4 wr) (fun i _=>n0 - (intOf i).toNat)
         case atStart=>exact ⟨0,by omega,rfl,rfl,Below.refl _ _⟩
         case round =>
          obtain ⟨k,hk,rfl,HK,hB⟩:=hrel
          have k50:=(hB.cell (p:=⟨w.heap.size,0,none⟩) z4).trans k40
          have k51:=(hB.cell (p:=⟨w.heap.size,1,none⟩) z4).trans k41
          have z5:w.heap.size<wr.heap.size:=ll z4 hB.size
          have HB:=ae hB
          have A5:=ae (A4.out.trans (hB.mono A4.out.size))
          clear hB
          by_cases hlt:k<n0
          ·obtain ⟨b,off,rfl,hr⟩:=slS V0.out (by omega)
           obtain ⟨d0,d1⟩:=(hr.2 k hlt).below A5.out hr.1
           clear hr k40 k41
           go_wp2_with fail
           go_region_with (go_at_call 85;refine (nf (some ⟨b,off,none⟩) n0 c0 a1 n1 c1 f1 (f0 k).name _ hn1 ?_).mono ?_;(first | exact V1.out.below A5.out lr | exact V1.out.below A5.out.drew lr);rintro e w1 ⟨r,rfl,hd,hB1⟩;have HD:=ae hd;clear hd;have B1:Hid (Below wr.heap.size wr w1):=⟨hB1.os,hB1.tape,hB1.output,hB1.size,hB1.block⟩;clear hB1)
           all_goals
            have B2:=ae (HB.out.trans (B1.out.mono HB.out.size))
            clear d0 d1 B1
            by_cases hq:0≤r
            ·have hc:=HC5.out
             rw [if_pos (eW hlt (by have:=HD.out;rw [decide_eq_true hq] at this;exact this.symm))] at hc
             subst hc
             go_wp2
             go_ret
             exact ⟨rfl,A4.out.trans (B2.out.mono A4.out.size)⟩
            ·have HQ:=ae hq
             go_wp2
             exact ⟨⟨k+1,by omega,by go_num,by show aW _ (k+1)=false;have:=HD.out;rw [decide_eq_false HQ.out] at this;simp [aW,HK.out,← this],B2.out⟩,by simp [intOf];omega⟩
          ·have e:n0=k:=by omega
           subst e
           have hc:=HC5.out
           rw [if_neg (by simp [HK.out])] at hc
           have HC6:=ae hc
           clear hc HC5 HK HB k40 k41
           go_wp2
           generalize wr=W5 at k50 k51 z5 A5 ⊢
           go_loopw [10] (fun i wr=>∃ k:Nat,k≤n0∧i=.int .i64 k∧Hid (aW (fun i=>ed (f0 i)) k=false)∧Below W5.heap.size W5 wr) (fun i _=>n0 - (intOf i).toNat)
           case atStart=>exact ⟨0,by omega,rfl,rfl,Below.refl _ _⟩
           case round =>
            obtain ⟨k,hk,rfl,HK,hB⟩:=hrel
            have k60:=(hB.cell (p:=⟨w.heap.size,0,none⟩) z5).trans k50
            have k61:=(hB.cell (p:=⟨w.heap.size,1,none⟩) z5).trans k51
            have z6:w.heap.size<wr.heap.size:=ll z5 hB.size
            have HB:=ae hB
            have A6:=ae (A5.out.trans (hB.mono A5.out.size))
            clear hB
            by_cases hlt:k<n0
            ·obtain ⟨b,off,rfl,hr⟩:=slS V0.out (by omega)
             obtain ⟨d0,d1⟩:=(hr.2 k hlt).below A6.out hr.1
             clear hr k50 k51
             by_cases hq:(2000:Int)<(f0 k).text.size
             ·have hc:=HC6.out
              rw [if_pos (eW hlt (by simpa [ed] using hq))] at hc
              subst hc
              go_wp2
              go_ret
              exact ⟨rfl,A5.out.trans (HB.out.mono A5.out.size)⟩
             ·have HQ:Hid (ed (f0 k)=false):=decide_eq_false hq
              go_wp2
              exact ⟨⟨k+1,by omega,by go_num,by show aW _ (k+1)=false;simp [aW,HK.out,HQ.out],HB.out⟩,by simp [intOf];omega⟩
            ·have e:n0=k:=by omega
             subst e
             have hc:=HC6.out
             rw [if_neg (by simp [HK.out])] at hc
             have HC7:=ae hc
             clear hc HC6 HK HB k50 k51
             go_wp2
             generalize wr=W6 at k60 k61 z6 A6 ⊢
             go_loopw [11,4] (fun i v wr=>∃ (k:Nat) (r:Int),k≤n1∧i=.int .i64 k∧v=.int .i64 r∧Hid (r=if aW (fun i=>cq (f1 i)) k=true then 7 else 0)∧Below W6.heap.size W6 wr) (fun i _ _=>n1 - (intOf i).toNat)
             case atStart=>exact ⟨0,0,by omega,rfl,rfl,rfl,Below.refl _ _⟩
             case round =>
              obtain ⟨k,r,hk,rfl,rfl,HK,hB⟩:=hrel
              have k70:=(hB.cell (p:=⟨w.heap.size,0,none⟩) z6).trans k60
              have k71:=(hB.cell (p:=⟨w.heap.size,1,none⟩) z6).trans k61
              have z7:w.heap.size<wr.heap.size:=ll z6 hB.size
              have HB:=ae hB
              have A7:=ae (A6.out.trans (hB.mono A6.out.size))
              clear hB
              by_cases hlt:k<n1
              ·obtain ⟨b,off,rfl,hr⟩:=slT V1.out (by omega)
               obtain ⟨d0,ka,kc,d1,hx⟩:=(hr.2 k hlt).below A7.out lr hr.1
               have HX:=ae hx
               clear hr hx k60 k61
               go_wp2_with fail
               refine (mP ka (f1 k).actN kc (f1 k).act _ (HF.out k hlt) HX.out (HS.out k hlt)).mono ?_
               rintro e w1 ⟨rfl,hB1⟩
               have B1:=ae (HB.out.trans (hB1.mono HB.out.size))
               clear hB1 d0 d1
               cases hq:valid (f1 k).act (f1 k).actN with
               | true =>
                have HQ:=ae hq
                clear hq
                have E:Hid (aW (fun i=>cq (f1 i)) (k+1)=aW (fun i=>cq (f1 i)) k):=by show (aW _ k || cq (f1 k))=_;rw [show cq (f1 k)=false by unfold cq;rw [HQ.out];rfl,Bool.or_false]
                go_wp2
                exact ⟨⟨k+1,r,by omega,by go_num,rfl,by show r=_;rw [E.out];exact HK.out,B1.out⟩,by simp [intOf];omega⟩
               | false =>
                have HQ:=ae hq
                clear hq
                have E:Hid (aW (fun i=>cq (f1 i)) (k+1)=true):=by show (aW _ k || cq (f1 k))=_;rw [show cq (f1 k)=true by unfold cq;rw [HQ.out];rfl,Bool.or_true]
                go_wp2
                exact ⟨⟨k+1,7,by omega,by go_num,rfl,by show (7:Int)=_;rw [if_pos E.out],B1.out⟩,by simp [intOf];omega⟩
              ·have e:n1=k:=by omega
               subst e
               have hc:=HC7.out
               rw [← HK.out] at hc
               subst hc
               go_wp2
               go_ret
               exact ⟨rfl,A6.out.trans (HB.out.mono A6.out.size)⟩
end Go.Proofs.YtkophfgkcijjkaaGreatDoor.Vp
