import Derived.Shelf.SlIter.Nil
import Derived.Shelf.SortM.Plain
import Derived.Shelf.SortM.SortNone
import Derived.Ground.GgzProg
import Derived.Ground.SlgmProg
import Derived.Test.YtkophfgkcijjkaaGreatDoorProg
set_option maxHeartbeats 1000000
namespace Go.Proofs
open RowKit Go.Maps Go.Sort Go.Shelf
def Tryz.keys173_ren:Go.Shelf.Ren:=⟨fun | 7=>173 | 10=>212 | n=>n,fun | 23=>154 | 26=>9 | 3=>225 | 28=>228 | 0=>0 | 27=>227 | 33=>101 | 4=>4 | n=>n,fun | n=>n⟩
theorem Tryz.keys173:Go.Proofs.SlLaysZ.n7 Tryz.prog Tryz.keys173_ren:={
 mixed:=by kernel_rfl
 f7:=⟨Tryz.f173.name,by decide,Tryz.func173.trans (congrArg some (by kernel_rfl))⟩
 f10:=⟨Tryz.f212.name,by decide,Tryz.func212.trans (congrArg some (by kernel_rfl))⟩
 t0:=Tryz.underlying0
 a0:=Tryz.isAgg0
 z0:=Tryz.sizeOf0
 v0:=Tryz.zeroValue0
 t4:=Tryz.underlying4
 a4:=Tryz.isAgg4
 z4:=Tryz.sizeOf4
 v4:=Tryz.zeroValue4
 t23:=Tryz.underlying154
 a23:=Tryz.isAgg154
 z23:=Tryz.sizeOf154
 v23:=Tryz.zeroValue154
 t26:=Tryz.underlying9
 a26:=Tryz.isAgg9
 z26:=Tryz.sizeOf9
 v26:=Tryz.zeroValue9
 t27:=Tryz.underlying227
 a27:=Tryz.isAgg227
 z27:=Tryz.sizeOf227
 v27:=Tryz.zeroValue227
 t28:=Tryz.underlying228
 a28:=Tryz.isAgg228
 z28:=Tryz.sizeOf228
 v28:=Tryz.zeroValue228
 t33:=Tryz.underlying101
 a33:=Tryz.isAgg101
 z33:=Tryz.sizeOf101
 v33:=Tryz.zeroValue101 }
def Tryz.sorted172_ren:Go.Shelf.Ren:=⟨fun | 6=>172 | 8=>210 | 9=>211 | 11=>231 | 13=>233 | 12=>232 | 23=>251 | 24=>252 | 14=>243 | 15=>244 | 16=>245 | 17=>246 | 18=>247 | 19=>248 | 20=>190 | 21=>249 | 22=>250 | 25=>267 | 26=>268 | 27=>269 | 28=>270 | 29=>271 | 30=>217 | 31=>286 | n=>n,fun | 26=>9 | 28=>228 | 24=>39 | 0=>0 | 3=>3 | 37=>246 | 48=>310 | 50=>312 | 4=>4 | 40=>304 | 39=>303 | 45=>96 | 5=>5 | 9=>9 | 51=>330 | 55=>334 | 57=>346 | 58=>62 | 33=>101 | n=>n,fun | n=>n⟩
theorem Tryz.sorted172:Go.Proofs.SlLaysZ.n6 Tryz.prog Tryz.sorted172_ren:={
 mixed:=by kernel_rfl
 f6:=⟨Tryz.f172.name,by decide,Tryz.func172.trans (congrArg some (by kernel_rfl))⟩
 f8:=⟨Tryz.f210.name,by decide,Tryz.func210.trans (congrArg some (by kernel_rfl))⟩
 f11:=⟨Tryz.f231.name,by decide,Tryz.func231.trans (congrArg some (by kernel_rfl))⟩
 t0:=Tryz.underlying0
 a0:=Tryz.isAgg0
 z0:=Tryz.sizeOf0
 v0:=Tryz.zeroValue0
 t24:=Tryz.underlying39
 a24:=Tryz.isAgg39
 z24:=Tryz.sizeOf39
 v24:=Tryz.zeroValue39
 t26:=Tryz.underlying9
 a26:=Tryz.isAgg9
 z26:=Tryz.sizeOf9
 v26:=Tryz.zeroValue9
 t28:=Tryz.underlying228
 a28:=Tryz.isAgg228
 z28:=Tryz.sizeOf228
 v28:=Tryz.zeroValue228
 i26:=by kernel_rfl }
def Tryz.sort211_ren:Go.Shelf.Ren:=⟨fun | 6=>211 | 8=>233 | 9=>232 | 19=>251 | 20=>252 | 21=>243 | 22=>244 | 23=>245 | 24=>246 | 25=>247 | 26=>248 | 27=>190 | 28=>249 | 29=>250 | 36=>267 | 31=>268 | 32=>269 | 37=>270 | 38=>271 | 39=>217 | 41=>286 | n=>n,fun | 27=>39 | 29=>9 | 3=>3 | 32=>246 | 26=>39 | 0=>0 | 44=>310 | 46=>312 | 4=>4 | 36=>304 | 35=>303 | 41=>96 | 5=>5 | 9=>9 | 53=>330 | 57=>334 | 63=>346 | 64=>62 | n=>n,fun | n=>n⟩
theorem Tryz.sort211:Go.Proofs.SlLaysM.n6 Tryz.prog Tryz.sort211_ren:={
 mixed:=by kernel_rfl
 f6:=⟨Tryz.f211.name,by decide,Tryz.func211.trans (congrArg some (by kernel_rfl))⟩
 f8:=Tryz.func233.trans (congrArg some (by kernel_rfl))
 f9:=⟨Tryz.f232.name,by decide,Tryz.func232.trans (congrArg some (by kernel_rfl))⟩
 f19:=Tryz.func251.trans (congrArg some (by kernel_rfl))
 f20:=Tryz.func252.trans (congrArg some (by kernel_rfl))
 f21:=⟨Tryz.f243.name,by decide,Tryz.func243.trans (congrArg some (by kernel_rfl))⟩
 f22:=⟨Tryz.f244.name,by decide,Tryz.func244.trans (congrArg some (by kernel_rfl))⟩
 f23:=⟨Tryz.f245.name,by decide,Tryz.func245.trans (congrArg some (by kernel_rfl))⟩
 f24:=⟨Tryz.f246.name,by decide,Tryz.func246.trans (congrArg some (by kernel_rfl))⟩
 f25:=⟨Tryz.f247.name,by decide,Tryz.func247.trans (congrArg some (by kernel_rfl))⟩
 f26:=⟨Tryz.f248.name,by decide,Tryz.func248.trans (congrArg some (by kernel_rfl))⟩
 f27:=⟨Tryz.f190.name,by decide,Tryz.func190.trans (congrArg some (by kernel_rfl))⟩
 f28:=⟨Tryz.f249.name,by decide,Tryz.func249.trans (congrArg some (by kernel_rfl))⟩
 f29:=⟨Tryz.f250.name,by decide,Tryz.func250.trans (congrArg some (by kernel_rfl))⟩
 f31:=Tryz.func268.trans (congrArg some (by kernel_rfl))
 f32:=Tryz.func269.trans (congrArg some (by kernel_rfl))
 f36:=⟨Tryz.f267.name,by decide,Tryz.func267.trans (congrArg some (by kernel_rfl))⟩
 f37:=⟨Tryz.f270.name,by decide,Tryz.func270.trans (congrArg some (by kernel_rfl))⟩
 f38:=⟨Tryz.f271.name,by decide,Tryz.func271.trans (congrArg some (by kernel_rfl))⟩
 f39:=⟨Tryz.f217.name,by decide,Tryz.func217.trans (congrArg some (by kernel_rfl))⟩
 f41:=⟨Tryz.f286.name,by decide,Tryz.func286.trans (congrArg some (by kernel_rfl))⟩
 t0:=Tryz.underlying0
 a0:=Tryz.isAgg0
 z0:=Tryz.sizeOf0
 v0:=Tryz.zeroValue0
 t3:=Tryz.underlying3
 a3:=Tryz.isAgg3
 z3:=Tryz.sizeOf3
 v3:=Tryz.zeroValue3
 t4:=Tryz.underlying4
 a4:=Tryz.isAgg4
 z4:=Tryz.sizeOf4
 v4:=Tryz.zeroValue4
 t5:=Tryz.underlying5
 a5:=Tryz.isAgg5
 z5:=Tryz.sizeOf5
 v5:=Tryz.zeroValue5
 t9:=Tryz.underlying9
 a9:=Tryz.isAgg9
 z9:=Tryz.sizeOf9
 v9:=Tryz.zeroValue9
 t26:=Tryz.underlying39
 a26:=Tryz.isAgg39
 z26:=Tryz.sizeOf39
 v26:=Tryz.zeroValue39
 t27:=Tryz.underlying39
 a27:=Tryz.isAgg39
 z27:=Tryz.sizeOf39
 v27:=Tryz.zeroValue39
 t29:=Tryz.underlying9
 a29:=Tryz.isAgg9
 z29:=Tryz.sizeOf9
 v29:=Tryz.zeroValue9
 t32:=Tryz.underlying246
 a32:=Tryz.isAgg246
 z32:=Tryz.sizeOf246
 v32:=Tryz.zeroValue246
 t35:=Tryz.underlying303
 a35:=Tryz.isAgg303
 z35:=Tryz.sizeOf303
 v35:=Tryz.zeroValue303
 t36:=Tryz.underlying304
 a36:=Tryz.isAgg304
 z36:=Tryz.sizeOf304
 v36:=Tryz.zeroValue304
 t41:=Tryz.underlying96
 a41:=Tryz.isAgg96
 z41:=Tryz.sizeOf96
 v41:=Tryz.zeroValue96
 t44:=Tryz.underlying310
 a44:=Tryz.isAgg310
 z44:=Tryz.sizeOf310
 v44:=Tryz.zeroValue310
 t46:=Tryz.underlying312
 a46:=Tryz.isAgg312
 z46:=Tryz.sizeOf312
 v46:=Tryz.zeroValue312
 t53:=Tryz.underlying330
 a53:=Tryz.isAgg330
 z53:=Tryz.sizeOf330
 v53:=Tryz.zeroValue330
 t57:=Tryz.underlying334
 a57:=Tryz.isAgg334
 z57:=Tryz.sizeOf334
 v57:=Tryz.zeroValue334
 t63:=Tryz.underlying346
 a63:=Tryz.isAgg346
 z63:=Tryz.sizeOf346
 v63:=Tryz.zeroValue346
 t64:=Tryz.underlying62
 a64:=Tryz.isAgg62
 z64:=Tryz.sizeOf62
 v64:=Tryz.zeroValue62 }
theorem Tryz.sorts172 (m:Nat):AnyZ.SortsIn Tryz.prog Tryz.sorted172_ren Fence.wide m :=
  ⟨fun blk off cap d W hH b c=>callsIn_wide.2 (AnyM.slices_Sort_string Tryz.sort211 blk off cap d W hH b c),
   fun p cap W=>callsIn_wide.2 (AnyM.slices_Sort_string_none Tryz.sort211 p cap W)⟩
theorem Tryz.maps_Keys_173 (b:Option Nat)(W:World):CallsIn Fence.wide 5 Tryz.prog 173 #[.map b] W fun e c=>e=.returned (.func (.func 212) #[] #[.pointer (some ⟨W.heap.size,0,none⟩)])/\c=W.alloc (.cells #[.map b] 154) :=
 AnyZ.keys_in Tryz.keys173 Fence.wide 5 trivial rfl b W
theorem Tryz.slices_Sorted_keys_172_173 {H:Type}(b k:Nat)(c:DataW H)(R:Value->Option (DataW H × List MemPlace))(w:World)(g:w.ownsMap Tryz.prog 9 R b k c)(i:Maps.size c<=maxLen)(f:Maps.size c*16<=140737488355328):CallsIn Fence.wide 5 Tryz.prog 172 #[.func (.func 212) #[] #[.pointer (some ⟨w.heap.size,0,none⟩)]] (w.alloc (.cells #[.map (some b)] 154)) fun e l=>∃ (v:Value) (d:List (List UInt8)),e=.returned v/\d.Perm (strKeys c) /\
   l.ownsRow (w.alloc (.cells #[.map (some b)] 154)).heap.size 9 1 v d.length ((d.mergeSort (fun x y=>decide (x<=y))).map encStr)/\(v=.slice none 0 0 ↔ d=[])/\Below (w.alloc (.cells #[.map (some b)] 154)).heap.size (w.alloc (.cells #[.map (some b)] 154)) l:=by
 have m:=g.lt
 have j:SeqGives Fence.wide 2 Tryz.prog 212 #[.pointer (some ⟨w.heap.size,0,none⟩)] encStr (fun d=>d.Perm (strKeys c)) (Maps.size c) (w.alloc (.cells #[.map (some b)] 154)) :=
  AnyZ.keys_gives (ρ:=Tryz.keys173_ren) { Tryz.keys173 with } Fence.wide _ trivial rfl (by omega) w.heap.size b k c _ (by simp) (by simp) (by
   obtain⟨n,h,hb,p,o,q⟩:=g
   exact⟨n,h,(Below.heap_alloc _ _ b m).trans hb,p,o,q⟩)
 exact AnyZ.sorted_in Tryz.sorted172 Fence.wide 5 trivial trivial trivial trivial rfl (by omega) (Tryz.sorts172 _) (enters_of Tryz.func211 (by kernel_rfl) rfl) 212 #[.pointer (some ⟨w.heap.size,0,none⟩)] trivial (enters_of Tryz.func212 (by kernel_rfl) rfl) _ _ i f _ j
end Go.Proofs
