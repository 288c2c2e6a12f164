import Derived.Test.YtkophfgkcijjkaaGreatDoorZE
import Derived.Maps.OwnSet
import Derived.Maps.Views
import Derived.StringKeys
set_option maxRecDepth 100000
set_option maxHeartbeats 4000000
namespace Go.Proofs.YtkophfgkcijjkaaGreatDoor.Vp
open RowKit
theorem vr {f:Nat→aD}{k:Nat}{D:DataW Unit}(hD:Maps.IsMap D)(h:∀ p,Maps.has D (.string (f p).name.data.toList)=!bK f p k)(d:DataW Unit):∀ p,Maps.has (D.put (.string (f k).name.data.toList) d) (.string (f p).name.data.toList)=!bK f p (k+1):=by
 intro p
 rw [bK,Bool.not_and,← h p,Bool.not_not]
 by_cases e:(f p).name.data.toList=(f k).name.data.toList
 ·rw [e,Maps.has_put_same hD (by simp [WideAt.IsKeyLit])]
  simp [ByteArray.toList_eq,e]
 ·rw [Maps.has_put_other (by simpa using e)]
  have:((f k).name.toList == (f p).name.toList)=false:=by simpa [ByteArray.toList_eq] using fun h=>e (by rw [h])
  rw [this]
  simp
theorem mr (b off n cap:Nat)(f:Nat→aD)(w:World)(hn:(n:Int)≤400)(hf:RowDeed w b off n f)(hs:∀ i,i<n→(f i).name.size≤maxLen) :
  Calls Tryz.prog 102 #[.agg #[.slice (some ⟨b,off,none⟩) n cap]] w fun e w'=>e=.returned (.int .i64 (aI (fun p=>bK f p p) n))∧Below w.heap.size w w':=by
 have HF:=ae hf
 have HS:=ae hs
 clear hf hs
 have A0:=ae (((Below.refl w.heap.size w).alloc lr (.cells #[.slice (some ⟨b,off,none⟩) n cap] 59)).alloc (by simp) (.map #[] 0))
 have M0:=ae (World.ownsMap_made (w.alloc (.cells #[.slice (some ⟨b,off,none⟩) n cap] 59)) Tryz.prog 9 (plainElem (H:=Unit) Tryz.prog 3))
 have hz:(w.alloc (.cells #[.slice (some ⟨b,off,none⟩) n cap] 59)).heap.size=w.heap.size+1:=by simp
 rw [hz] at M0
 clear hz
 obtain ⟨r,hr⟩:∃ r,r=aI (fun p=>bK f p p) n:=⟨_,rfl⟩
 rw [← hr]
 have HR:=ae hr
 clear hr
 have hmm:=@run_makeMap Tryz.prog
 go_enter Tryz.func102,Tryz.ntmps102
 go_wp2
 clear hmm
 generalize (w.alloc (.cells #[.slice (some ⟨b,off,none⟩) n cap] 59)).alloc (.map #[] 0)=W at A0 M0 ⊢
 obtain ⟨mb,hmb⟩:∃ mb,mb=w.heap.size+1:=⟨_,rfl⟩
 rw [← hmb] at M0 ⊢
 have HMB:=ae hmb
 clear hmb
 go_loopw [12] (fun i wr=>∃ (k:Nat) (D:DataW Unit),k≤n∧i=.int .i64 k∧Hid (∀ j,j<k→bK f j j=true)∧Hid (wr.ownsMap Tryz.prog 9 (plainElem (H:=Unit) Tryz.prog 3) mb k D)∧Hid (∀ p,Maps.has D (.string (f p).name.data.toList)=!bK f p k)∧Hid (Below w.heap.size w wr)) (fun i _=>n - (intOf i).toNat)
 case atStart=>exact ⟨0,_,by omega,rfl,fun j hj=>absurd hj (Nat.not_lt_zero _),M0.out,fun p=>rfl,A0.out⟩
 case round =>
  obtain ⟨k,D,hk,rfl,HK,HM,HH,HB⟩:=hrel
  by_cases hlt:k<n
  ·obtain ⟨p0,p1,p2,p3,⟨a0,cap0,p4,q4⟩,⟨a1,cap1,p5,q5⟩⟩:=(HF.out.below HB.out lr).2 k hlt
   clear q4 q5
   have hkey:=WideMaps.keyOf_string_mk (P:=Tryz.prog) (k:=9) Tryz.underlying9 (HS.out k hlt)
   have HKEY:=ae hkey
   have HHK:=ae (HH.out k)
   clear hkey
   cases hnew:bK f k k with
   | false =>
    have hhas:Maps.has D (.string (f k).name.data.toList)=true:=by rw [HHK.out,hnew];rfl
    have HHS:=ae hhas
    obtain rfl:r=k:=by rw [HR.out];exact jS hlt hnew HK.out
    clear hnew
    have B1:=ae (HB.out.alloc HB.out.size (.cells #[.string (f k).name,.int .i64 (f k).kind,.int .i64 (f k).code,.string (f k).text,.slice a0 (f k).actN cap0,.slice a1 (f k).linksN cap1] 67))
    go_wp2_with (at_lookup;refine wpList_lookup_own_ok_int _ rfl _ _ 215 rfl 9 3 .i64 (Maps.string_keyed Tryz.underlying9) Tryz.underlying215 Tryz.underlying3 (Tryz.zeroValue3 _) mb k D rfl (HM.out.alloc _) _ _ rfl HKEY.out ?_;intro c hat hwc;clear hat hwc)
    go_ret
    exact ⟨rfl,B1.out⟩
   | true =>
    have hhas:Maps.has D (.string (f k).name.data.toList)=false:=by rw [HHK.out,hnew];rfl
    have HNW:=ae hnew
    clear hnew
    have hwf:(Lit.int .i64 (k:Int)).wf=true:=by simp only [Lit.wf,IntKind.min,IntKind.max,IntKind.signed,IntKind.bits,Bool.and_eq_true,decide_eq_true_eq,if_true];omega
    have HWF:=ae hwf
    clear hwf
    go_wp2_with (first
     | (at_lookup;refine wpList_lookup_own_ok_int _ rfl _ _ 215 rfl 9 3 .i64 (Maps.string_keyed Tryz.underlying9) Tryz.underlying215 Tryz.underlying3 (Tryz.zeroValue3 _) mb k D rfl (HM.out.alloc _) _ _ rfl HKEY.out ?_;intro c hat hwc;clear hat hwc)
     | (at_mapUpdate;refine wpList_mapUpdate_own _ rfl _ _ _ 215 rfl 9 3 (Maps.string_keyed Tryz.underlying9) Tryz.underlying215 _ mb k D rfl (HM.out.alloc _) (by unfold maxLen;omega) _ _ _ rfl rfl HKEY.out _ [] (plainElem_int Tryz.underlying3 HWF.out) ?_;intro w1 hown1 hgrow1;have M1:=ae hown1;have B1:=ae (Below.grown (HB.out.alloc HB.out.size (.cells #[.string (f k).name,.int .i64 (f k).kind,.int .i64 (f k).code,.string (f k).text,.slice a0 (f k).actN cap0,.slice a1 (f k).linksN cap1] 67)) hgrow1 (by have:=HB.out.size;simp;omega) (fun j e=>by cases e;have:=HMB.out;omega));clear hown1 hgrow1))
    exact ⟨⟨k+1,_,by omega,by go_num,fun j hj=>by
     by_cases e:j=k
     ·subst e;exact HNW.out
     ·exact HK.out j (by omega),M1.out,vr HM.out.isMap HH.out _,B1.out⟩,by simp [intOf];omega⟩
  ·have e:n=k:=by omega
   subst e
   obtain rfl:r=-1:=by rw [HR.out];exact ew HK.out
   go_wp2
   go_ret
   exact ⟨rfl,HB.out⟩
end Go.Proofs.YtkophfgkcijjkaaGreatDoor.Vp
