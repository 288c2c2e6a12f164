import Derived.Test.YtkophfgkcijjkaaGreatDoorZD
import Derived.Deep.DeepCutAuto
set_option maxRecDepth 100000
set_option maxHeartbeats 4000000
namespace Go.Proofs.YtkophfgkcijjkaaGreatDoor.Vp
open RowKit
abbrev wX (x:aD)(a0:Option Addr)(cap0:Nat)(a1:Option Addr)(cap1:Nat):Value:=.agg #[.string x.name,.int .i64 x.kind,.int .i64 x.code,.string x.text,.slice a0 x.actN cap0,.slice a1 x.linksN cap1]
abbrev wY (l:Link):Value:=.agg #[.string l.name,.bool l.ask,.bool l.has,.int .i64 l.at_]
theorem jT (x:aD)(a0:Option Addr)(cap0:Nat)(a1:Option Addr)(cap1:Nat)(w:World) :
  Calls Tryz.prog 200 #[wX x a0 cap0 a1 cap1] w fun e w'=>e=.returned (.bool (bO x))∧Below w.heap.size w w':=by
 have A0:=ae ((Below.refl w.heap.size w).alloc lr (.cells #[.string x.name,.int .i64 x.kind,.int .i64 x.code,.string x.text,.slice a0 x.actN cap0,.slice a1 x.linksN cap1] 67))
 obtain ⟨r,hr⟩:∃ r,r=bO x:=⟨_,rfl⟩
 rw [← hr]
 have HR:=ae hr
 clear hr
 go_enter Tryz.func200,Tryz.ntmps200
 cases h1:(x.code == 0) with
 | false =>
  obtain rfl:r=false:=by rw [HR.out];simp at h1;simp [bO,h1]
  go_wp2
  go_ret
  exact ⟨rfl,A0.out⟩
 | true =>
  cases h2:((x.actN:Int) == 0) with
  | false =>
   obtain rfl:r=false:=by rw [HR.out];simp at h2;simp [bO];omega
   go_wp2
   go_ret
   exact ⟨rfl,A0.out⟩
  | true =>
   cases h3:((x.linksN:Int) == 0) with
   | false =>
    obtain rfl:r=false:=by rw [HR.out];simp at h3;simp [bO];omega
    go_wp2
    go_ret
    exact ⟨rfl,A0.out⟩
   | true =>
    obtain rfl:r=true:=by rw [HR.out];simp at h1 h2 h3;simp [bO,h1,h2,h3]
    go_wp2
    go_ret
    exact ⟨rfl,A0.out⟩
def ey (f:Nat→aD)(p:Nat)(l:Link):Bool:=if l.ask=true then !l.has && decide (0≤l.at_) && decide (l.at_<(p:Int)) && ((f l.at_.toNat).name.toList == l.name.toList) else decide (l.at_=0)
theorem iJ (f:Nat→aD)(p:Nat)(l:Link):eP f p l=(au l.name && ey f p l):=rfl
theorem iB (b off n p cap:Nat)(f:Nat→aD)(l:Link)(w:World)(hp:p≤n)(hf:RowDeed w b off n f) :
  Calls Tryz.prog 225 #[.slice (some ⟨b,off,none⟩) p cap,wY l] w fun e w'=>e=.returned (.bool (ey f p l))∧Below w.heap.size w w':=by
 have A0:=ae ((Below.refl w.heap.size w).alloc lr (.cells #[.string l.name,.bool l.ask,.bool l.has,.int .i64 l.at_] 73))
 have HF:=ae (hf.below A0.out lr)
 have hb:=hf.1
 clear hf
 obtain ⟨r,hr⟩:∃ r,r=ey f p l:=⟨_,rfl⟩
 rw [← hr]
 have HR:=ae hr
 clear hr
 obtain ⟨nm,ask,has,at_⟩:=l
 go_enter Tryz.func225,Tryz.ntmps225
 cases ask with
 | false =>
  cases h1:(at_ == 0) with
  | true =>
   obtain rfl:r=true:=by rw [HR.out];simp at h1;simp [ey,h1]
   go_wp2
   go_ret
   exact ⟨rfl,A0.out⟩
  | false =>
   obtain rfl:r=false:=by rw [HR.out];simp at h1;simp [ey,h1]
   go_wp2
   go_ret
   exact ⟨rfl,A0.out⟩
 | true =>
  cases has with
  | true =>
   obtain rfl:r=false:=by rw [HR.out];simp [ey]
   go_wp2_with fail
   go_quiet (fail)
   go_wp2
   go_ret
   exact ⟨rfl,below_drewN A0.out _⟩
  | false =>
   by_cases h1:0≤at_
   ·by_cases h2:at_<(p:Int)
    ·obtain ⟨q,rfl⟩:∃ q:Nat,at_=(q:Int):=⟨at_.toNat,by omega⟩
     have hq:q<n:=by omega
     have d0:=(HF.out.2 q hq).1
     have e:r=((f q).name.toList == nm.toList):=by rw [HR.out];simp [ey,h2]
     cases hr:((f q).name.toList == nm.toList) with
     | true =>
      rw [hr] at e
      subst e
      go_wp2_with fail
      go_quiet (fail)
      go_wp2
      go_ret
      exact ⟨rfl,below_drewN A0.out _⟩
     | false =>
      rw [hr] at e
      subst e
      go_wp2_with fail
      go_quiet (fail)
      go_wp2
      go_ret
      exact ⟨rfl,below_drewN A0.out _⟩
    ·obtain rfl:r=false:=by rw [HR.out];simp [ey,h2]
     have h3:decide (at_<(p:Int))=false:=by simpa using h2
     go_wp2_with fail
     go_quiet (fail)
     go_wp2
     go_ret
     exact ⟨rfl,below_drewN A0.out _⟩
   ·obtain rfl:r=false:=by rw [HR.out];simp [ey,h1]
    have h3:decide (0≤at_)=false:=by simpa using h1
    go_wp2_with fail
    go_quiet (fail)
    go_wp2
    go_ret
    exact ⟨rfl,below_drewN A0.out _⟩
theorem jU {f:Nat→aD}{p:Nat}{x:aD}{k m:Nat}(hk:k<m)(h:cb f p x (k+1)=false):cb f p x m=false:=by
 induction m with
 | zero=>omega
 | succ j ih =>
  by_cases e:k=j
  ·subst e;exact h
  ·rw [cb,ih (by omega)];rfl
theorem kU (b off n cap p:Nat)(f:Nat→aD)(w:World)(hp:p<n)(hf:RowDeed w b off n f)(hcap:(p:Int)≤cap) :
  Calls Tryz.prog 201 #[.agg #[.slice (some ⟨b,off,none⟩) n cap],.int .i64 (p:Int)] w fun e w'=>e=.returned (.bool (decide ((f p).linksN≤200) && cb f p (f p) (f p).linksN))∧Below w.heap.size w w':=by
 have A0:=ae ((Below.refl w.heap.size w).alloc lr (.cells #[.slice (some ⟨b,off,none⟩) n cap] 59))
 have HF:=ae hf
 obtain ⟨_,_,_,_,_,⟨a1,cap1,p5',r1⟩⟩:=hf.2 p hp
 have hb:=hf.1
 have k0:(w.alloc (.cells #[.slice (some ⟨b,off,none⟩) n cap] 59)).cell? ⟨w.heap.size,0,none⟩=some (.slice (some ⟨b,off,none⟩) n cap):=by simp
 have p5:=(A0.out.cell (p:=⟨b,off+p*6+5,none⟩) hb).trans p5'
 have HL:=ae r1
 have hw0:w.heap.size<(w.alloc (.cells #[.slice (some ⟨b,off,none⟩) n cap] 59)).heap.size:=by simp
 clear r1 p5' hf
 obtain ⟨m,hm⟩:∃ m,m=(f p).linksN:=⟨_,rfl⟩
 obtain ⟨L,hL⟩:∃ L,L=(f p).links:=⟨_,rfl⟩
 rw [← hm] at p5 HL ⊢
 rw [← hL] at HL
 have HM:=ae hm
 have HLK:=ae hL
 clear hm hL
 by_cases hbig:(200:Int)<(m:Int)
 ·obtain ⟨r,hr⟩:∃ r,r=(decide (m≤200) && cb f p (f p) m):=⟨_,rfl⟩
  rw [← hr]
  obtain rfl:r=false:=by rw [hr];simp;omega
  clear hr
  go_enter Tryz.func201,Tryz.ntmps201
  go_wp2
  go_ret
  exact ⟨rfl,A0.out⟩
 have hd:decide (m≤200)=true:=by simp;omega
 rw [hd,Bool.true_and]
 clear hd
 go_enter Tryz.func201,Tryz.ntmps201
 go_wp2
 generalize w.alloc (.cells #[.slice (some ⟨b,off,none⟩) n cap] 59)=W at A0 k0 hw0 ⊢
 clear p5
 go_loopw [19] (fun i wr=>∃ k:Nat,k≤m∧i=.int .i64 k∧Hid (cb f p (f p) k=true)∧Hid (Below W.heap.size W wr)) (fun i _=>m - (intOf i).toNat)
 case atStart=>exact ⟨0,by omega,rfl,rfl,Below.refl _ _⟩
 case round =>
  obtain ⟨k,hk,rfl,HK,HB⟩:=hrel
  by_cases hlt:k<m
  ·obtain ⟨lb,lo,rfl,hlb,hrow⟩:=HL.out.resolve_left (by omega)
   have hx:=(hrow k hlt).below (A0.out.trans (HB.out.mono A0.out.size)) hlb
   obtain ⟨l,hl⟩:∃ l,l=L k:=⟨_,rfl⟩
   rw [← hl] at hx
   have HLL:=ae hl
   obtain ⟨d0,d1,d2,d3⟩:=hx
   clear hl hrow
   have HS:Hid (cb f p (f p) (k+1)=eP f p l):=by
    show (cb f p (f p) k && eP f p ((f p).links k))=_
    rw [HK.out,Bool.true_and,← HLK.out,← HLL.out]
   have B1:=ae ((A0.out.trans (HB.out.mono A0.out.size)).alloc (by have:=A0.out.size;have:=HB.out.size;omega) (.cells #[.string l.name,.bool l.ask,.bool l.has,.int .i64 l.at_] 73))
   have C1:=ae ((HB.out).alloc HB.out.size (.cells #[.string l.name,.bool l.ask,.bool l.has,.int .i64 l.at_] 73))
   have e0:(wr.alloc (.cells #[.string l.name,.bool l.ask,.bool l.has,.int .i64 l.at_] 73)).cell? ⟨wr.heap.size,0,none⟩=some (.string l.name):=by simp
   have e1:(wr.alloc (.cells #[.string l.name,.bool l.ask,.bool l.has,.int .i64 l.at_] 73)).cell? ⟨wr.heap.size,1,none⟩=some (.bool l.ask):=by simp
   have e2:(wr.alloc (.cells #[.string l.name,.bool l.ask,.bool l.has,.int .i64 l.at_] 73)).cell? ⟨wr.heap.size,2,none⟩=some (.bool l.has):=by simp
   have e3:(wr.alloc (.cells #[.string l.name,.bool l.ask,.bool l.has,.int .i64 l.at_] 73)).cell? ⟨wr.heap.size,3,none⟩=some (.int .i64 l.at_):=by simp
   have hX:wr.heap.size<(wr.alloc (.cells #[.string l.name,.bool l.ask,.bool l.has,.int .i64 l.at_] 73)).heap.size:=by simp
   have k1:=(C1.out.cell (p:=⟨w.heap.size,0,none⟩) hw0).trans k0
   have hw1:w.heap.size<(wr.alloc (.cells #[.string l.name,.bool l.ask,.bool l.has,.int .i64 l.at_] 73)).heap.size:=ll hw0 C1.out.size
   have FR:=ae (HF.out.below B1.out lr)
   go_upto_region 7 with fail
   clear d0 d1 d2 d3
   generalize wr.alloc (.cells #[.string l.name,.bool l.ask,.bool l.has,.int .i64 l.at_] 73)=W1 at B1 C1 e0 e1 e2 e3 hX k1 hw1 FR ⊢
   generalize wr.heap.size=X at e0 e1 e2 e3 hX ⊢
   have hp0:0≤(p:Int):=by omega
   have hpn:(p:Int)≤n:=by omega
   have hp':p≤n:=by omega
   have hcap':p≤cap:=by omega
   cases hnm:au l.name with
   | false =>
    have hq:∀ w,Calls Tryz.prog 81 #[.string l.name] w fun e w'=>e=.returned (.bool false)∧w'=w:=fun w=>by rw [← hnm];exact oJ l.name w
    go_quiet ((go_at_call 81;exact Calls.quiet_of_same (hq _)))
    have hN:eP f p l=false:=by rw [iJ,hnm];rfl
    have HN:=ae (HS.out.trans hN)
    have HLT:=ae hlt
    have G1:=ae (below_drewN B1.out nq)
    clear hN
    go_wp2
    go_ret
    exact ⟨congrArg (fun z=>Ending.returned (.bool z)) (jU HLT.out HN.out).symm,G1.out⟩
   | true =>
    cases hla:ey f p l with
    | true =>
     go_region_with (first
      | (go_at_call 81;refine (dm _ _).mono ?_;rintro e w1 ⟨he,hB1⟩;rw [hnm] at he;subst he;have D1:Hid (Below W1.heap.size W1 w1):=⟨hB1.os,hB1.tape,hB1.output,hB1.size,hB1.block⟩;have f0:=(D1.out.cell (p:=⟨X,0,none⟩) hX).trans e0;have f1:=(D1.out.cell (p:=⟨X,1,none⟩) hX).trans e1;have f2:=(D1.out.cell (p:=⟨X,2,none⟩) hX).trans e2;have f3:=(D1.out.cell (p:=⟨X,3,none⟩) hX).trans e3;have k2:=(D1.out.cell (p:=⟨w.heap.size,0,none⟩) hw1).trans k1;have F2:=ae (FR.out.below D1.out lr);clear hB1)
      | (go_at_call 225;refine (iB b off n p cap f l _ hp' F2.out).mono ?_;rintro e w2 ⟨he,hB2⟩;rw [hla] at he;subst he;have D2:=ae (D1.out.trans (hB2.mono D1.out.size));clear hB2))
     all_goals
      have HN:Hid (cb f p (f p) (k+1)=true):=HS.out.trans (by rw [iJ,hnm,hla];rfl)
      have G2:=ae (C1.out.trans (D2.out.mono C1.out.size))
      go_wp2
      exact ⟨⟨k+1,by omega,by go_num,HN.out,G2.out⟩,by simp [intOf];omega⟩
    | false =>
     go_region_with (first
      | (go_at_call 81;refine (dm _ _).mono ?_;rintro e w1 ⟨he,hB1⟩;rw [hnm] at he;subst he;have D1:Hid (Below W1.heap.size W1 w1):=⟨hB1.os,hB1.tape,hB1.output,hB1.size,hB1.block⟩;have f0:=(D1.out.cell (p:=⟨X,0,none⟩) hX).trans e0;have f1:=(D1.out.cell (p:=⟨X,1,none⟩) hX).trans e1;have f2:=(D1.out.cell (p:=⟨X,2,none⟩) hX).trans e2;have f3:=(D1.out.cell (p:=⟨X,3,none⟩) hX).trans e3;have k2:=(D1.out.cell (p:=⟨w.heap.size,0,none⟩) hw1).trans k1;have F2:=ae (FR.out.below D1.out lr);clear hB1)
      | (go_at_call 225;refine (iB b off n p cap f l _ hp' F2.out).mono ?_;rintro e w2 ⟨he,hB2⟩;rw [hla] at he;subst he;have D2:=ae (D1.out.trans (hB2.mono D1.out.size));clear hB2))
     all_goals
      have HN:Hid (cb f p (f p) (k+1)=false):=HS.out.trans (by rw [iJ,hnm,hla];rfl)
      have HLT:=ae hlt
      have G2:=ae (B1.out.trans (D2.out.mono (by have:=B1.out.size;omega)))
      go_wp2
      go_ret
      exact ⟨congrArg (fun z=>Ending.returned (.bool z)) (jU HLT.out HN.out).symm,G2.out⟩
  ·have e:m=k:=by omega
   subst e
   go_wp2
   go_ret
   exact ⟨by rw [HM.out] at HK;rw [HM.out];exact congrArg (fun z=>Ending.returned (.bool z)) HK.out.symm,A0.out.trans (HB.out.mono A0.out.size)⟩
structure SixB (w:World)(b:Nat)(v0 v1 v2 v3 v4 v5:Value):Prop where
 lt:b<w.heap.size
 c0:w.cell? ⟨b,0,none⟩=some v0
 c1:w.cell? ⟨b,1,none⟩=some v1
 c2:w.cell? ⟨b,2,none⟩=some v2
 c3:w.cell? ⟨b,3,none⟩=some v3
 c4:w.cell? ⟨b,4,none⟩=some v4
 c5:w.cell? ⟨b,5,none⟩=some v5
theorem SixB.below {w w':World}{b:Nat}{v0 v1 v2 v3 v4 v5:Value}(h:SixB w b v0 v1 v2 v3 v4 v5)(hb:Below w.heap.size w w'):SixB w' b v0 v1 v2 v3 v4 v5 :=
 ⟨ll h.lt hb.size,(hb.cell (p:=⟨b,0,none⟩) h.lt).trans h.c0,(hb.cell (p:=⟨b,1,none⟩) h.lt).trans h.c1,(hb.cell (p:=⟨b,2,none⟩) h.lt).trans h.c2,(hb.cell (p:=⟨b,3,none⟩) h.lt).trans h.c3,(hb.cell (p:=⟨b,4,none⟩) h.lt).trans h.c4,(hb.cell (p:=⟨b,5,none⟩) h.lt).trans h.c5⟩
theorem tM (w:World)(v0 v1 v2 v3 v4 v5:Value)(t:TypeId):SixB (w.alloc (.cells #[v0,v1,v2,v3,v4,v5] t)) w.heap.size v0 v1 v2 v3 v4 v5:=⟨by simp,by simp,by simp,by simp,by simp,by simp,by simp⟩
theorem qq (t:ByteArray):t.toList.isEmpty=decide (t.size=0):=by
 rw [ByteArray.toList_eq]
 obtain ⟨⟨l⟩⟩:=t
 cases l<;>simp [ByteArray.size]
theorem wv {a b:Bool}(h:a=b):Ending.returned (.bool a)=Ending.returned (.bool b):=by rw [h]
theorem ml (b off n cap p:Nat)(f:Nat→aD)(w:World)(hp:p<n)(hf:RowDeed w b off n f)(hcap:(p:Int)≤cap)(hfit:(f p).actN≤1048576)(hT:Tab w) :
  Calls Tryz.prog 162 #[.agg #[.slice (some ⟨b,off,none⟩) n cap],.int .i64 (p:Int)] w fun e w'=>e=.returned (.bool (bE f p))∧Below w.heap.size w w':=by
 have HF:=ae hf
 have HT:=ae hT
 have hb:=hf.1
 obtain ⟨p0,p1,p2,p3,⟨a0,cap0,p4,q4⟩,⟨a1,cap1,p5,q5⟩⟩:=hf.2 p hp
 obtain ⟨r,hr⟩:∃ r,r=bE f p:=⟨_,rfl⟩
 rw [← hr]
 have HR:=ae hr
 obtain ⟨x,hx⟩:∃ x,x=f p:=⟨_,rfl⟩
 rw [← hx] at p0 p1 p2 p3 p4 p5 q4 hfit
 have HX:=ae hx
 have Q4:=ae q4
 clear hr hx q4 q5 hf hT
 have A0:=ae (((Below.refl w.heap.size w).alloc lr (.cells #[.slice (some ⟨b,off,none⟩) n cap] 59)).alloc (by simp) (.cells #[.string x.name,.int .i64 x.kind,.int .i64 x.code,.string x.text,.slice a0 x.actN cap0,.slice a1 x.linksN cap1] 67))
 have S0:=ae (tM (w.alloc (.cells #[.slice (some ⟨b,off,none⟩) n cap] 59)) (.string x.name) (.int .i64 x.kind) (.int .i64 x.code) (.string x.text) (.slice a0 x.actN cap0) (.slice a1 x.linksN cap1) 67)
 have hz:(w.alloc (.cells #[.slice (some ⟨b,off,none⟩) n cap] 59)).heap.size=w.heap.size+1:=by simp
 rw [hz] at S0
 have K0:Hid (((w.alloc (.cells #[.slice (some ⟨b,off,none⟩) n cap] 59)).alloc (.cells #[.string x.name,.int .i64 x.kind,.int .i64 x.code,.string x.text,.slice a0 x.actN cap0,.slice a1 x.linksN cap1] 67)).cell? ⟨w.heap.size,0,none⟩=some (.slice (some ⟨b,off,none⟩) n cap)):=by
  show World.cell? _ _=_
  simp
 clear hz
 go_enter Tryz.func162,Tryz.ntmps162
 go_wp2_with fail
 generalize (w.alloc (.cells #[.slice (some ⟨b,off,none⟩) n cap] 59)).alloc (.cells #[.string x.name,.int .i64 x.kind,.int .i64 x.code,.string x.text,.slice a0 x.actN cap0,.slice a1 x.linksN cap1] 67)=W at A0 S0 K0 ⊢
 clear p0 p1 p2 p3 p4 p5
 cases hnm:au x.name with
 | false =>
  refine (dm x.name _).mono ?_
  rintro e w1 ⟨he,hB⟩
  rw [hnm] at he
  subst he
  have B1:=ae (A0.out.trans (hB.mono A0.out.size))
  obtain rfl:r=false:=by rw [HR.out];unfold bE;rw [← HX.out,hnm];rfl
  clear hB
  go_wp2
  go_ret
  exact ⟨rfl,B1.out⟩
 | true =>
 refine (dm x.name _).mono ?_
 rintro e w1 ⟨he,hB⟩
 rw [hnm] at he
 subst he
 have B1:=ae (A0.out.trans (hB.mono A0.out.size))
 have S1:=ae (S0.out.below hB)
 have K1:=ae ((hB.cell (p:=⟨w.heap.size,0,none⟩) (Nat.lt_of_succ_lt S0.out.lt)).trans K0.out)
 have c1:=S1.out.c1
 have c2:=S1.out.c2
 have c3:=S1.out.c3
 clear hB A0 S0 K0
 by_cases hbig:(2000:Int)<(x.text.size:Int)
 ·obtain rfl:r=false:=by rw [HR.out];unfold bE;rw [← HX.out,hnm];simp;omega
  go_wp2
  go_ret
  exact ⟨rfl,B1.out⟩
 have HK:Hid (r=kindOk f p x):=by
  show r=_
  rw [HR.out];unfold bE;rw [← HX.out,hnm,show decide (x.text.size≤2000)=true by simp;omega];rfl
 clear HR
 cases h1:(x.kind == 1) with
 | true =>
  have hk:x.kind=1:=by simpa using h1
  have HK1:Hid (bO x=r):=(HK.out.trans (by unfold kindOk;rw [if_pos hk])).symm
  clear hk
  have c0:=S1.out.c0
  have c4:=S1.out.c4
  have c5:=S1.out.c5
  go_wp2_with fail
  refine (jT x a0 cap0 a1 cap1 _).mono ?_
  rintro e w2 ⟨rfl,hB⟩
  have B2:=ae (B1.out.trans (hB.mono B1.out.size))
  clear hB
  go_wp2
  go_ret
  exact ⟨wv HK1.out,B2.out⟩
 | false =>
 cases h2:(x.kind == 2) with
 | true =>
  have hk:x.kind=2:=by simpa using h2
  have HK1:Hid (r=(bO x && decide (x.text.size=0))):=HK.out.trans (by unfold kindOk;rw [if_neg (by omega),if_pos hk])
  clear hk
  have c0:=S1.out.c0
  have c4:=S1.out.c4
  have c5:=S1.out.c5
  go_wp2_with fail
  refine (jT x a0 cap0 a1 cap1 _).mono ?_
  rintro e w2 ⟨he,hB⟩
  have B2:=ae (B1.out.trans (hB.mono B1.out.size))
  have d3:=(S1.out.below hB).c3
  clear hB
  cases hu:bO x with
  | false =>
   rw [hu] at he
   subst he
   obtain rfl:r=false:=by rw [HK1.out,hu];rfl
   go_wp2
   go_ret
   exact ⟨rfl,B2.out⟩
  | true =>
   rw [hu] at he
   subst he
   have HK2:Hid (decide (x.text.size=0)=r):=by show _=r;rw [HK1.out,hu];rfl
   go_wp2
   go_ret
   exact ⟨aQ (by rw [qq];exact HK2.out),B2.out⟩
 | false =>
 cases h3:(x.kind == 3) with
 | false =>
  obtain rfl:r=false:=by rw [HK.out];unfold kindOk;simp at h1 h2 h3;rw [if_neg h1,if_neg h2,if_neg h3]
  go_wp2
  go_ret
  exact ⟨rfl,B1.out⟩
 | true =>
 have HK1:Hid (r=dE f p x):=HK.out.trans (by unfold kindOk;simp at h1 h2 h3;rw [if_neg h1,if_neg h2,if_pos h3])
 by_cases g1:0≤x.code
 ·by_cases g2:x.code≤5
  ·have c4:=S1.out.c4
   go_wp2_with fail
   refine (iI a0 x.actN cap0 x.act _ hfit (Q4.out.below B1.out lr) (HT.out.below B1.out HT.out.1)).mono ?_
   rintro e w2 ⟨he,hB⟩
   have B2:=ae (B1.out.trans (hB.mono B1.out.size))
   have K2:=(hB.cell (p:=⟨w.heap.size,0,none⟩) (Nat.lt_of_succ_lt S1.out.lt)).trans K1.out
   clear hB
   cases hv:valid x.act x.actN with
   | false =>
    rw [hv] at he
    subst he
    obtain rfl:r=false:=by rw [HK1.out];simp [dE,hv]
    go_wp2
    go_ret
    exact ⟨rfl,B2.out⟩
   | true =>
    rw [hv] at he
    subst he
    have HK2:Hid ((decide (x.linksN≤200) && cb f p x x.linksN)=r):=by show _=r;rw [HK1.out];simp [dE,hv,g1,g2]
    have HRL:=ae (kU b off n cap p f w2 hp (HF.out.below B2.out lr) hcap)
    rw [← HX.out] at HRL
    rw [HK2.out] at HRL
    go_wp2_with fail
    refine HRL.out.mono ?_
    rintro e w3 ⟨rfl,hB⟩
    have B3:=ae (B2.out.trans (hB.mono B2.out.size))
    clear hB
    go_wp2
    go_ret
    exact ⟨rfl,B3.out⟩
  ·obtain rfl:r=false:=by rw [HK1.out];simp [dE,g2]
   go_wp2
   go_ret
   exact ⟨rfl,B1.out⟩
 ·obtain rfl:r=false:=by rw [HK1.out];simp [dE,g1]
  go_wp2
  go_ret
  exact ⟨rfl,B1.out⟩
theorem mo (b off n cap:Nat)(f:Nat→aD)(w:World)(hn:(n:Int)≤400)(hf:RowDeed w b off n f)(hcap:(n:Int)≤cap)(hfit:∀ i,i<n→gP (f i))(hT:Tab w) :
  Calls Tryz.prog 101 #[.agg #[.slice (some ⟨b,off,none⟩) n cap]] w fun e w'=>e=.returned (.int .i64 (aI (bE f) n))∧Below w.heap.size w w':=by
 have HF:=ae hf
 have HT:=ae hT
 have HM:=ae hfit
 clear hf hT hfit
 have A0:=ae ((Below.refl w.heap.size w).alloc lr (.cells #[.slice (some ⟨b,off,none⟩) n cap] 59))
 have k0:(w.alloc (.cells #[.slice (some ⟨b,off,none⟩) n cap] 59)).cell? ⟨w.heap.size,0,none⟩=some (.slice (some ⟨b,off,none⟩) n cap):=by simp
 have hw0:w.heap.size<(w.alloc (.cells #[.slice (some ⟨b,off,none⟩) n cap] 59)).heap.size:=by simp
 obtain ⟨r,hr⟩:∃ r,r=aI (bE f) n:=⟨_,rfl⟩
 rw [← hr]
 have HR:=ae hr
 clear hr
 go_enter Tryz.func101,Tryz.ntmps101
 go_wp2
 generalize w.alloc (.cells #[.slice (some ⟨b,off,none⟩) n cap] 59)=W at A0 k0 hw0 ⊢
 go_loopw [7] (fun i wr=>∃ k:Nat,k≤n∧i=.int .i64 k∧Hid (∀ j,j<k→bE f j=true)∧Hid (Below W.heap.size W wr)) (fun i _=>n - (intOf i).toNat)
 case atStart=>exact ⟨0,by omega,rfl,fun j hj=>absurd hj (Nat.not_lt_zero _),Below.refl _ _⟩
 case round =>
  obtain ⟨k,hk,rfl,HK,HB⟩:=hrel
  have k1:=(HB.out.cell (p:=⟨w.heap.size,0,none⟩) hw0).trans k0
  have G0:=ae (A0.out.trans (HB.out.mono A0.out.size))
  by_cases hlt:k<n
  ·go_wp2_with fail
   refine (ml b off n cap k f _ hlt (HF.out.below G0.out lr) (by omega) (HM.out k hlt).1 (HT.out.below G0.out HT.out.1)).mono ?_
   rintro e w2 ⟨he,hB⟩
   have G1:=ae (G0.out.trans (hB.mono G0.out.size))
   have H1:=ae (HB.out.trans (hB.mono HB.out.size))
   clear hB
   cases hd:bE f k with
   | true =>
    rw [hd] at he
    subst he
    have HD:=ae hd
    clear hd
    go_wp2
    exact ⟨⟨k+1,by omega,by go_num,fun j hj=>by
     by_cases e:j=k
     ·subst e;exact HD.out
     ·exact HK.out j (by omega),H1.out⟩,by simp [intOf];omega⟩
   | false =>
    rw [hd] at he
    subst he
    obtain rfl:r=k:=by rw [HR.out];exact jS hlt hd HK.out
    clear hd
    go_wp2
    go_ret
    exact ⟨rfl,G1.out⟩
  ·have e:n=k:=by omega
   subst e
   obtain rfl:r=-1:=by rw [HR.out];exact ew HK.out
   go_wp2
   go_ret
   exact ⟨rfl,G0.out⟩
end Go.Proofs.YtkophfgkcijjkaaGreatDoor.Vp
