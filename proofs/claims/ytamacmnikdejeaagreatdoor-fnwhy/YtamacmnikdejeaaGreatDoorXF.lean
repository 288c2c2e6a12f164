import Derived.Test.YtamacmnikdejeaaGreatDoorYD
import Derived.Test.YtamacmnikdejeaaGreatDoorYQ
import Derived.Shelf.SlIter.Nil
import Derived.Shelf.SortM.Plain
import Derived.Shelf.SortM.SortNone
import Derived.Ground.GgzProg
import Derived.Ground.SlgmProg
set_option maxRecDepth 100000
set_option maxHeartbeats 8000000
open Go.Addr renaming mk->T
open Go.Value renaming slice->Y
open Option renaming none->Z,some->N
open Go.Obj renaming cells->Q
open Go renaming World->H,Value->QS
open Bool renaming false->QQ,true->QR
open Go.Ending renaming returned->QU
namespace Go.Proofs
open RowKit Go.Maps Go.Sort Go.Shelf
def Tryz.keys101_ren:Go.Shelf.Ren:=⟨fun | 7=>101 | 10=>146 | n=>n,fun | 23=>101 | 26=>9 | 3=>173 | 28=>176 | 0=>0 | 27=>175 | 33=>84 | 4=>4 | n=>n,fun | n=>n⟩
theorem Tryz.keys101:Go.Proofs.SlLaysZ.n7 Tryz.prog Tryz.keys101_ren:={
 mixed:=by kernel_rfl
 f7:=⟨Tryz.f101.name,by decide,Tryz.func101.trans (congrArg N (by kernel_rfl))⟩
 f10:=⟨Tryz.f146.name,by decide,Tryz.func146.trans (congrArg N (by kernel_rfl))⟩
 t0:=Tryz.underlying0
 a0:=Tryz.isAgg0
 z0:=Tryz.sizeOf0
 v0:=Tryz.zeroValue0
 t4:=Tryz.underlying4
 a4:=Tryz.isAgg4
 z4:=Tryz.sizeOf4
 v4:=Tryz.zeroValue4
 t23:=Tryz.underlying101
 a23:=Tryz.isAgg101
 z23:=Tryz.sizeOf101
 v23:=Tryz.zeroValue101
 t26:=Tryz.underlying9
 a26:=Tryz.isAgg9
 z26:=Tryz.sizeOf9
 v26:=Tryz.zeroValue9
 t27:=Tryz.underlying175
 a27:=Tryz.isAgg175
 z27:=Tryz.sizeOf175
 v27:=Tryz.zeroValue175
 t28:=Tryz.underlying176
 a28:=Tryz.isAgg176
 z28:=Tryz.sizeOf176
 v28:=Tryz.zeroValue176
 t33:=Tryz.underlying84
 a33:=Tryz.isAgg84
 z33:=Tryz.sizeOf84
 v33:=Tryz.zeroValue84 }
def Tryz.sorted100_ren:Go.Shelf.Ren:=⟨fun | 6=>100 | 8=>144 | 9=>145 | 11=>178 | 13=>180 | 12=>179 | 23=>204 | 24=>205 | 14=>196 | 15=>197 | 16=>198 | 17=>199 | 18=>200 | 19=>201 | 20=>182 | 21=>202 | 22=>203 | 25=>213 | 26=>214 | 27=>215 | 28=>216 | 29=>217 | 30=>206 | 31=>224 | n=>n,fun | 26=>9 | 28=>176 | 24=>35 | 0=>0 | 3=>3 | 37=>267 | 48=>288 | 50=>290 | 4=>4 | 40=>282 | 39=>281 | 45=>187 | 5=>5 | 9=>9 | 51=>298 | 55=>302 | 57=>307 | 58=>32 | 33=>84 | n=>n,fun | n=>n⟩
theorem Tryz.sorted100:Go.Proofs.SlLaysZ.n6 Tryz.prog Tryz.sorted100_ren:={
 mixed:=by kernel_rfl
 f6:=⟨Tryz.f100.name,by decide,Tryz.func100.trans (congrArg N (by kernel_rfl))⟩
 f8:=⟨Tryz.f144.name,by decide,Tryz.func144.trans (congrArg N (by kernel_rfl))⟩
 f11:=⟨Tryz.f178.name,by decide,Tryz.func178.trans (congrArg N (by kernel_rfl))⟩
 t0:=Tryz.underlying0
 a0:=Tryz.isAgg0
 z0:=Tryz.sizeOf0
 v0:=Tryz.zeroValue0
 t24:=Tryz.underlying35
 a24:=Tryz.isAgg35
 z24:=Tryz.sizeOf35
 v24:=Tryz.zeroValue35
 t26:=Tryz.underlying9
 a26:=Tryz.isAgg9
 z26:=Tryz.sizeOf9
 v26:=Tryz.zeroValue9
 t28:=Tryz.underlying176
 a28:=Tryz.isAgg176
 z28:=Tryz.sizeOf176
 v28:=Tryz.zeroValue176
 i26:=by kernel_rfl }
def Tryz.sort145_ren:Go.Shelf.Ren:=⟨fun | 6=>145 | 8=>180 | 9=>179 | 19=>204 | 20=>205 | 21=>196 | 22=>197 | 23=>198 | 24=>199 | 25=>200 | 26=>201 | 27=>182 | 28=>202 | 29=>203 | 36=>213 | 31=>214 | 32=>215 | 37=>216 | 38=>217 | 39=>206 | 41=>224 | n=>n,fun | 27=>35 | 29=>9 | 3=>3 | 32=>267 | 26=>35 | 0=>0 | 44=>288 | 46=>290 | 4=>4 | 36=>282 | 35=>281 | 41=>187 | 5=>5 | 9=>9 | 53=>298 | 57=>302 | 63=>307 | 64=>32 | n=>n,fun | n=>n⟩
theorem Tryz.sort145:Go.Proofs.SlLaysM.n6 Tryz.prog Tryz.sort145_ren:={
 mixed:=by kernel_rfl
 f6:=⟨Tryz.f145.name,by decide,Tryz.func145.trans (congrArg N (by kernel_rfl))⟩
 f8:=Tryz.func180.trans (congrArg N (by kernel_rfl))
 f9:=⟨Tryz.f179.name,by decide,Tryz.func179.trans (congrArg N (by kernel_rfl))⟩
 f19:=Tryz.func204.trans (congrArg N (by kernel_rfl))
 f20:=Tryz.func205.trans (congrArg N (by kernel_rfl))
 f21:=⟨Tryz.f196.name,by decide,Tryz.func196.trans (congrArg N (by kernel_rfl))⟩
 f22:=⟨Tryz.f197.name,by decide,Tryz.func197.trans (congrArg N (by kernel_rfl))⟩
 f23:=⟨Tryz.f198.name,by decide,Tryz.func198.trans (congrArg N (by kernel_rfl))⟩
 f24:=⟨Tryz.f199.name,by decide,Tryz.func199.trans (congrArg N (by kernel_rfl))⟩
 f25:=⟨Tryz.f200.name,by decide,Tryz.func200.trans (congrArg N (by kernel_rfl))⟩
 f26:=⟨Tryz.f201.name,by decide,Tryz.func201.trans (congrArg N (by kernel_rfl))⟩
 f27:=⟨Tryz.f182.name,by decide,Tryz.func182.trans (congrArg N (by kernel_rfl))⟩
 f28:=⟨Tryz.f202.name,by decide,Tryz.func202.trans (congrArg N (by kernel_rfl))⟩
 f29:=⟨Tryz.f203.name,by decide,Tryz.func203.trans (congrArg N (by kernel_rfl))⟩
 f31:=Tryz.func214.trans (congrArg N (by kernel_rfl))
 f32:=Tryz.func215.trans (congrArg N (by kernel_rfl))
 f36:=⟨Tryz.f213.name,by decide,Tryz.func213.trans (congrArg N (by kernel_rfl))⟩
 f37:=⟨Tryz.f216.name,by decide,Tryz.func216.trans (congrArg N (by kernel_rfl))⟩
 f38:=⟨Tryz.f217.name,by decide,Tryz.func217.trans (congrArg N (by kernel_rfl))⟩
 f39:=⟨Tryz.f206.name,by decide,Tryz.func206.trans (congrArg N (by kernel_rfl))⟩
 f41:=⟨Tryz.f224.name,by decide,Tryz.func224.trans (congrArg N (by kernel_rfl))⟩
 t0:=Tryz.underlying0
 a0:=Tryz.isAgg0
 z0:=Tryz.sizeOf0
 v0:=Tryz.zeroValue0
 t3:=Tryz.underlying3
 a3:=Tryz.isAgg3
 z3:=Tryz.sizeOf3
 v3:=Tryz.zeroValue3
 t4:=Tryz.underlying4
 a4:=Tryz.isAgg4
 z4:=Tryz.sizeOf4
 v4:=Tryz.zeroValue4
 t5:=Tryz.underlying5
 a5:=Tryz.isAgg5
 z5:=Tryz.sizeOf5
 v5:=Tryz.zeroValue5
 t9:=Tryz.underlying9
 a9:=Tryz.isAgg9
 z9:=Tryz.sizeOf9
 v9:=Tryz.zeroValue9
 t26:=Tryz.underlying35
 a26:=Tryz.isAgg35
 z26:=Tryz.sizeOf35
 v26:=Tryz.zeroValue35
 t27:=Tryz.underlying35
 a27:=Tryz.isAgg35
 z27:=Tryz.sizeOf35
 v27:=Tryz.zeroValue35
 t29:=Tryz.underlying9
 a29:=Tryz.isAgg9
 z29:=Tryz.sizeOf9
 v29:=Tryz.zeroValue9
 t32:=Tryz.underlying267
 a32:=Tryz.isAgg267
 z32:=Tryz.sizeOf267
 v32:=Tryz.zeroValue267
 t35:=Tryz.underlying281
 a35:=Tryz.isAgg281
 z35:=Tryz.sizeOf281
 v35:=Tryz.zeroValue281
 t36:=Tryz.underlying282
 a36:=Tryz.isAgg282
 z36:=Tryz.sizeOf282
 v36:=Tryz.zeroValue282
 t41:=Tryz.underlying187
 a41:=Tryz.isAgg187
 z41:=Tryz.sizeOf187
 v41:=Tryz.zeroValue187
 t44:=Tryz.underlying288
 a44:=Tryz.isAgg288
 z44:=Tryz.sizeOf288
 v44:=Tryz.zeroValue288
 t46:=Tryz.underlying290
 a46:=Tryz.isAgg290
 z46:=Tryz.sizeOf290
 v46:=Tryz.zeroValue290
 t53:=Tryz.underlying298
 a53:=Tryz.isAgg298
 z53:=Tryz.sizeOf298
 v53:=Tryz.zeroValue298
 t57:=Tryz.underlying302
 a57:=Tryz.isAgg302
 z57:=Tryz.sizeOf302
 v57:=Tryz.zeroValue302
 t63:=Tryz.underlying307
 a63:=Tryz.isAgg307
 z63:=Tryz.sizeOf307
 v63:=Tryz.zeroValue307
 t64:=Tryz.underlying32
 a64:=Tryz.isAgg32
 z64:=Tryz.sizeOf32
 v64:=Tryz.zeroValue32 }
theorem Tryz.sorts100 (m:Nat):AnyZ.SortsIn Tryz.prog Tryz.sorted100_ren Fence.wide m :=
  ⟨fun blk off cap f W hH b c=>callsIn_wide.2 (AnyM.slices_Sort_string Tryz.sort145 blk off cap f W hH b c),
   fun p cap W=>callsIn_wide.2 (AnyM.slices_Sort_string_none Tryz.sort145 p cap W)⟩
theorem Tryz.maps_Keys_101 (b:Option Nat)(W:H):CallsIn Fence.wide 5 Tryz.prog 101 #[.map b] W fun e c=>e=QU (.func (.func 146) #[] #[.pointer (N (T W.heap.size 0 Z))])/\c=W.alloc (Q #[.map b] 101) :=
 AnyZ.keys_in Tryz.keys101 Fence.wide 5 trivial rfl b W
theorem Tryz.slices_Sorted_keys_100_101 {ZB:Type}(b o:Nat)(c:DataW ZB)(R:QS->Option (DataW ZB × List MemPlace))(w:H)(h:w.ownsMap Tryz.prog 9 R b o c)(j:Maps.size c<=maxLen)(g:Maps.size c*16<=140737488355328):CallsIn Fence.wide 5 Tryz.prog 100 #[.func (.func 146) #[] #[.pointer (N (T w.heap.size 0 Z))]] (w.alloc (Q #[.map (N b)] 101)) fun e n=>∃ (v:QS) (f:List (List UInt8)),e=QU v/\f.Perm (strKeys c) /\
   n.ownsRow (w.alloc (Q #[.map (N b)] 101)).heap.size 9 1 v f.length ((f.mergeSort (fun x y=>decide (x<=y))).map encStr)/\(v=Y Z 0 0 ↔ f=[])/\Below (w.alloc (Q #[.map (N b)] 101)).heap.size (w.alloc (Q #[.map (N b)] 101)) n:=by
 have m:=h.lt
 have l:SeqGives Fence.wide 2 Tryz.prog 146 #[.pointer (N (T w.heap.size 0 Z))] encStr (fun f=>f.Perm (strKeys c)) (Maps.size c) (w.alloc (Q #[.map (N b)] 101)) :=
  AnyZ.keys_gives (ρ:=Tryz.keys101_ren) { Tryz.keys101 with } Fence.wide _ trivial rfl (by omega) w.heap.size b o c _ (by simp) (by simp) (by
   obtain⟨q,i,hb,s,p,r⟩:=h
   exact⟨q,i,(Below.heap_alloc _ _ b m).trans hb,s,p,r⟩)
 exact AnyZ.sorted_in Tryz.sorted100 Fence.wide 5 trivial trivial trivial trivial rfl (by omega) (Tryz.sorts100 _) (enters_of Tryz.func145 (by kernel_rfl) rfl) 146 #[.pointer (N (T w.heap.size 0 Z))] trivial (enters_of Tryz.func146 (by kernel_rfl) rfl) _ _ j g _ l
end Go.Proofs
namespace Go.Proofs.YtamacmnikdejeaaGreatDoor.Vp
open RowKit Go.Maps Go.Sort Go.Shelf
def SetIs (w:H)(b n:Nat)(L:List (List UInt8)):Prop :=
 ∃ D:DataW Unit,w.ownsMap Tryz.prog 9 unitElem b n D/\∀ x,x∈L ↔ Maps.has D (.string x)=QR
theorem Al (w:H):SetIs (w.alloc (.map #[] 0)) w.heap.size 0 [] :=
 ⟨_,N5 w Tryz.prog 9 unitElem,fun x=>by simp[Maps.has]⟩
theorem SetIs.lt {w:H}{b n:Nat}{L:List (List UInt8)}(h:SetIs w b n L):b<w.heap.size:=by obtain⟨D,h1,-⟩:=h;exact h1.lt
theorem Dk {D:DataW Unit}{L:List (List UInt8)}{x:List UInt8}(b:Maps.IsMap D)(h:∀ z,z∈L ↔ Maps.has D (.string z)=QR)(d:DataW Unit):∀ z,z∈bX L x ↔ Maps.has (D.put (.string x) d) (.string z)=QR:=by
 intro z;rw[fD];by_cases e:z=x
 ·subst e
  rw[OU b (by simp[WideAt.IsKeyLit])];simp
 ·rw[NA (by simpa using e),<-h z]
  simp[e]
theorem E9 (g n:Nat)(L:List (List UInt8))(x:ByteArray)(w:H)(hn:(n:Int)<=1048576)(p:x.size<=maxLen)(h:SetIs w g n L):Calls Tryz.prog 52 #[.map (N g),.string x] w fun e l=>e=QU (.tuple #[])/\SetIs l g (n+1) (bX L x.toList)/\w.grownBy l (N g):=by obtain⟨D,c,m⟩:=h;have s:=ae c;have o:=ae (Dk c.isMap (x:=x.toList) m (.agg []));clear m c;have i:=MQ (P:=Tryz.prog) (k:=9) Tryz.underlying9 p;have j:=ae i;clear i;go_enter Tryz.func52,Tryz.ntmps52;go_wp2_with (at_mapUpdate;refine NQ _ rfl _ _ _ 101 rfl 9 173 (MO Tryz.underlying9) Tryz.underlying101 unitElem g n D rfl s (by unfold maxLen;omega) _ _ _ rfl rfl j _ [] unitElem_mk ?_;intro w1 f b;have q:=ae f;have r:=ae b;clear f b);go_end0;refine⟨rfl,⟨_,q,?_⟩,r⟩;have:=o.out;simp only[D0] at this ⊢;exact this
theorem yA (j n:Nat)(L:List (List UInt8))(w:H)(hn:(n:Int)<=1048576)(hL:L.Pairwise (· < ·))(h:SetIs w j n L):Calls Tryz.prog 53 #[.map (N j)] w fun e i=>∃ v,e=QU v/\i.ownsRow w.heap.size 9 1 v L.length (L.map encStr)/\Below w.heap.size w i:=by
 obtain⟨D,b,m⟩:=h;have hsz:=b.size_le;have f:L.Nodup:=hL.imp fun h e=>by subst e;exact MX _ h
 have o:L.Perm (strKeys D):=Collected.perm (left:=fun _=>QQ) ⟨f,fun x=>by rw[m x];simp⟩ b (MO Tryz.underlying9) Tryz.underlying9 (fun _=>rfl);have q:=ae o;have r:=ae f;have s:=ae hL;clear o f hL m;refine(QH (n:=6)).1 ?_;have hfK:Fence.wide.fn 101:=trivial;have hfS:Fence.wide.fn 100:=trivial;refine QP Tryz.func53 rfl trivial ?_ rfl;simp only[Tryz.ntmps53,LC,z8,IS,Nat.reduceAdd,Nat.reduceSub,LV,LX,MP,MB,JT,KH]
 gi_wp2_with (first
  | (gi_at_call 101;refine(Tryz.maps_Keys_101 _ _).mono ?_;rintro e i ⟨rfl,rfl⟩)
  | (gi_at_call 100;refine(Tryz.slices_Sorted_keys_100_101 j n D unitElem w b (by unfold maxLen;omega) (by omega)).mono ?_;rintro e i ⟨v,p,rfl,t,g,hnil,hb⟩))
 go_ret;have c:p.Perm L:=t.trans q.symm;have l:p.mergeSort (fun x y=>decide (x<=y))=L:=Ej (c.nodup_iff.2 r) s (fun z=>c.mem_iff);rw[l,c.length_eq] at g;exact⟨v,rfl,ownsRow_base_a g (by simp),((eL _ w).alloc ly _).trans (hb.mono (by simp))⟩
end Go.Proofs.YtamacmnikdejeaaGreatDoor.Vp
namespace Go.Proofs.YtamacmnikdejeaaGreatDoor.Vp
open RowKit Go.Maps Go.Sort
theorem oT {acc:List (List UInt8)}{g:Nat->Link}{j:Nat}{z:List UInt8}(h:z∈acc∨∃ i,i<j/\z=(g i).name.toList):z∈gN acc g j:=by
 induction j with
 | zero =>
  rcases h with h | ⟨i,hi,_⟩
  ·exact h
  ·omega
 | succ j b =>
  rw[gN];refine(fD _ _ _).2 ?_;rcases h with h | ⟨i,hi,e⟩
  ·exact .inl (b (.inl h))
  ·by_cases c:i=j
   ·subst c
    exact .inr e
   ·exact .inl (b (.inr ⟨i,by omega,e⟩))
theorem yB {f:Nat->aj}{s:List UInt8}{k:Nat}{x:Tl}(h:x∈aJ f s k):s∈cL f k:=by
 induction k with
 | zero=>cases h
 | succ k c =>
  rw[aJ] at h;rw[cL];rcases hU.1 h with h | h
  ·rcases hU.1 h with h | h
   ·exact oT (.inl ((fD _ _ _).2 (.inl (c h))))
   ·split at h
    ·rename_i b
     exact oT (.inl ((fD _ _ _).2 (.inr b.symm)))
    ·cases h
  ·obtain⟨i,hi,_,e⟩:=lE h
   exact oT (.inr ⟨i,hi,e.symm⟩)
theorem um {f:Nat->aj}{n:Nat}{g:Nat->aj}{m:Nat}{s:List UInt8}:eC f n g m s=QR ↔ ∃ x∈aJ f s n,∃ y∈aJ g s m,cy x y=QQ:=by unfold eC gO;simp
theorem Dl {f:Nat->aj}{n:Nat}{g:Nat->aj}{m:Nat}(i:aZ f n=QR)(b:aZ g m=QR)(s:List UInt8):s∈dd f n g m ↔ eC f n g m s=QR:=by unfold dd;rw[gA ⟨i,b⟩,MN];refine⟨fun h=>h.2,fun h=>⟨?_,h⟩⟩;obtain⟨x,c,_⟩:=um.1 h;exact yB c
theorem SetIs.blk {w w':H}{b n:Nat}{L:List (List UInt8)}(h:SetIs w b n L)(hb:w'.heap[b]?=w.heap[b]?):SetIs w' b n L:=by obtain⟨D,⟨j,c,h1,i,f,g⟩,h2⟩:=h;exact⟨D,⟨j,c,hb.trans h1,i,f,g⟩,h2⟩
theorem RgN.cnt_le {w:H}{b r n:Nat}{G:List UInt8->Option QS}{left:List UInt8->Bool}{cnt:Nat}(h:RgN w b r n G left cnt):cnt<=n:=by obtain⟨D,L,⟨c,clock,since,seen,c0,h1,h2,h3,h4,h5,h6,h7,h8⟩,hG,hL⟩:=h;have:(leftOf c seen).size<=c.size:=Array.size_filter_le;omega
theorem F8 (o:Option Nat):(o.map fun b=>Value.map (N b)).getD (.map Z)=.map o:=by cases o<;>rfl
theorem TaleG.setO {w c:H}{lo f n:Nat}{G:List UInt8->Option Nat}{Q2:List UInt8->Told->Prop}(h:TaleG w lo f n G Q2){B:Nat}(hb:Below B w c)(g:w.heap.size<=B)(s:List UInt8):SetO c (G s) n (Q2 s):=by
 cases e:G s with
 | none=>exact h.no s e
 | some b=>exact(h.set s b e).1.blk (hb.block b (lj (h.set s b e).1.lt g))
def pV (K:List UInt8->List aQ)(f:Nat->aj)(n:Nat)(Q2:List UInt8->Told->Prop):Prop :=
 (∀ s t,Q2 s t ↔ ∃ x∈aJ f s n,t=ik K s x)/\∀ s,∀ x∈aJ f s n,InK K s x/\nF x
theorem un {f:Nat->aj}{n:Nat}{i K:List UInt8->List aQ}(h:aZ f n=QR)(g:ExtK (ef f i n) K):pV K f n (fu f i n):=by
 have c:=BR h;refine⟨fun s t=>?_,fun s x b=>⟨((gQ c x b).ext g).1,tu c x b⟩⟩;rw[xM c];constructor
 ·rintro⟨x,b,e⟩
  exact⟨x,b,e.trans ((gQ c x b).ext g).2.symm⟩
 ·rintro⟨x,b,e⟩
  exact⟨x,b,e.trans ((gQ c x b).ext g).2⟩
theorem oU {f:Nat->aj}{n:Nat}{g:Nat->aj}{m:Nat}{K:List UInt8->List aQ}{i j:List UInt8->Told->Prop}(h1:pV K f n i)(h2:pV K g m j)(s:List UInt8):(∃ t u,i s t/\j s u/\gP t u=QQ) ↔ eC f n g m s=QR:=by
 rw[um];constructor
 ·rintro⟨t,u,l,o,h⟩
  obtain⟨x,b,rfl⟩:=(h1.1 s t).1 l;obtain⟨y,c,rfl⟩:=(h2.1 s u).1 o;refine⟨x,b,y,c,?_⟩;rw[<-pw (h1.2 s x b).2 (h2.2 s y c).2 (h1.2 s x b).1 (h2.2 s y c).1];exact h
 ·rintro⟨x,b,y,c,h⟩
  refine⟨_,_,(h1.1 s _).2 ⟨x,b,rfl⟩,(h2.1 s _).2 ⟨y,c,rfl⟩,?_⟩;rw[pw (h1.2 s x b).2 (h2.2 s y c).2 (h1.2 s x b).1 (h2.2 s y c).1];exact h
theorem vK (a0:Option Addr)(n c0:Nat)(f:Nat->aj)(a1:Option Addr)(m c1:Nat)(g:Nat->aj)(w:H)(hn:(n:Int)<=1048576)(hm:(m:Int)<=1048576)(hf:SlDeed w a0 n f)(hg:SlDeed w a1 m g)(G8:(n:Int)<=c0)(GO:(m:Int)<=c1)(GC:∀ i,i<n->cS (f i))(Fm:∀ i,i<m->cS (g i))(DE:∀ i,i<n->eF (f i))(DQ:∀ i,i<m->eF (g i))(hT:Tab w):Calls Tryz.prog 15 #[.agg #[Y a0 n c0],.agg #[Y a1 m c1]] w fun e w'=>∃ v,e=QU v/\w'.ownsRow w.heap.size 9 1 v (dd f n g m).length ((dd f n g m).map encStr)/\Below w.heap.size w w':=by
 have HF:=ae hf;have HG:=ae hg;have ur:=ae GC;have At:=ae Fm;have GQ:=ae DE;have GM:=ae DQ;have HT:=ae hT;clear hf hg GC Fm DE DQ hT;have Q2:=ae (((q9 w).alloc ly (Q #[Y a0 n c0] 25)).alloc (by simp) (Q #[Y a1 m c1] 25));have k0:((w.alloc (Q #[Y a0 n c0] 25)).alloc (Q #[Y a1 m c1] 25)).cell? (T w.heap.size 0 Z)=N (Y a0 n c0):=by simp[go_sem]
 have k1:((w.alloc (Q #[Y a0 n c0] 25)).alloc (Q #[Y a1 m c1] 25)).cell? (T (w.heap.size+1) 0 Z)=N (Y a1 m c1):=by simp[go_sem]
 have hz:w.heap.size+1<((w.alloc (Q #[Y a0 n c0] 25)).alloc (Q #[Y a1 m c1] 25)).heap.size:=by simp
 obtain⟨R,hR⟩:∃ R,R=dd f n g m:=⟨_,rfl⟩
 rw[<-hR];have HE:=ae hR;clear hR
 have n9:=ae (fun h:aZ f n=QQ∨aZ g m=QQ=>(show R=[] by
  rw[HE.out];unfold dd;rw[eI];rintro⟨h1,h2⟩;rcases h with h | h
  ·rw[h1] at h;cases h
  ·rw[h2] at h;cases h))
 go_enter Tryz.func15,Tryz.ntmps15;go_wp2_with fail;generalize (w.alloc (Q #[Y a0 n c0] 25)).alloc (Q #[Y a1 m c1] 25)=W0 at Q2 k0 k1 hz ⊢;refine(jC a0 n c0 f _ hn (HF.out.below Q2.out ly) G8 ur.out (HT.out.below Q2.out HT.out.1)).mono ?_;rintro e w1 ⟨rfl,E⟩;have QW:=ae (Q2.out.trans (E.mono Q2.out.size));have l0:=(E.cell (p:=(T w.heap.size 0 Z)) (by show w.heap.size<_;omega)).trans k0;have X:=(E.cell (p:=(T (w.heap.size+1) 0 Z)) hz).trans k1;have sm:w.heap.size+1<w1.heap.size:=lj hz E.size;clear E k0 k1 hz Q2;cases hfo:aZ f n with
 | false =>obtain rfl:=n9.out (.inl hfo);clear hfo;go_wp2;go_ret;exact⟨_,rfl,⟨by simp,.inl ⟨rfl,rfl⟩⟩,QW.out⟩
 | true =>
  have OF:=ae hfo;go_wp2_with fail;refine(jC a1 m c1 g _ hm (HG.out.below QW.out ly) GO At.out (HT.out.below QW.out HT.out.1)).mono ?_;rintro e c ⟨rfl,C⟩;have B2:=ae (QW.out.trans (C.mono QW.out.size));have m0:=(C.cell (p:=(T w.heap.size 0 Z)) (by show w.heap.size<_;omega)).trans l0;have m1:=(C.cell (p:=(T (w.heap.size+1) 0 Z)) sm).trans X;have Hc:w.heap.size+1<c.heap.size:=lj sm C.size;clear C l0 X sm hfo;cases hgo:aZ g m with
  | false =>obtain rfl:=n9.out (.inr hgo);clear hgo;go_wp2;go_ret;exact⟨_,rfl,⟨by simp,.inl ⟨rfl,rfl⟩⟩,B2.out⟩
  | true =>
   have OG:=ae hgo;clear hgo n9;obtain⟨hn1,GU,-⟩:=dX OF.out;obtain⟨GT,Hb,-⟩:=dX OG.out;obtain⟨b0,o0,rfl,Fd⟩:=HF.out.resolve_left (by omega);obtain⟨b1,o1,rfl,GE⟩:=HG.out.resolve_left (by omega);have RF:=ae (Fd.below B2.out ly);have RG:=ae (GE.below B2.out ly);have LF:=ae (cZ OF.out);have LG:=ae (cZ OG.out);clear Fd GE HF HG QW;have AC:=ae (Bv c);have QZ:=ae ((q9 c).alloc ly (.map #[] 0));have la:=@QN Tryz.prog;go_wp2_with fail;clear la
   have ZA:=ae (fun(V:H) (G:Below c.heap.size c V)=>(show V.cell? (T w.heap.size 0 Z)=N (Y (N (T b0 o0 Z)) n c0)/\V.cell? (T (w.heap.size+1) 0 Z)=N (Y (N (T b1 o1 Z)) m c1) from
    ⟨(G.cell (p:=(T w.heap.size 0 Z)) (by show w.heap.size<_;omega)).trans m0,(G.cell (p:=(T (w.heap.size+1) 0 Z)) Hc).trans m1⟩))
   generalize c.alloc (.map #[] 0)=W3 at AC QZ ⊢;clear m0 m1;obtain⟨kb,th⟩:∃ kb,kb=c.heap.size:=⟨_,rfl⟩
   have HKB:=ae th;rw[<-th] at AC ⊢;clear th;go_cut [6,7] (fun x y wx=>∃ (A t2 X l2:Nat) (K:List UInt8->List aQ) (T1 T2:List UInt8->Told->Prop),x=.map (N A)/\y=.map (N t2)/\Hid (Tale wx X A 100000 T1)/\Hid (Tale wx l2 t2 100000 T2)/\Hid (pV K f n T1)/\Hid (pV K g m T2)/\Hid (c.heap.size<=X/\c.heap.size<=l2)/\Hid (Below c.heap.size c wx));case first =>
    have GS:=ae (fun(V:H) (G:Below W3.heap.size W3 V)=>pt c kb 0 (fun _=>[]) b0 o0 n c0 f V (by omega) hn1 GU LF.out GQ.out ur.out (QZ.out.trans (G.mono QZ.out.size)) RF.out (AC.out.below G ly))
    go_region_held3 (fun V=>V.cell? (T w.heap.size 0 Z)=N (Y (N (T b0 o0 Z)) n c0)/\V.cell? (T (w.heap.size+1) 0 Z)=N (Y (N (T b1 o1 Z)) m c1)) (first | exact ZA.out _ QZ.out | exact ZA.out _ QZ.out.drew | exact ZA.out _ QY.out | exact ZA.out _ QY.out.drew | exact ZA.out _ E6.out | exact ZA.out _ E6.out.drew)
     (first
     | (go_at_call 50;(with_reducible refine(GP.out _ ?_).mono ?_);(first | exact eL _ _ | exact br.drew);rintro e w6 ⟨t6,rfl,GD,Ha,z⟩;have T6:=ae GD;have K6:=ae z;have E6:=ae (QY.out.trans ⟨z.below.os,z.below.tape,z.below.output,z.below.size,z.below.block⟩);clear GD Ha z)
     | (go_at_call 50;(with_reducible refine(GS.out _ ?_).mono ?_);(first | exact eL _ _ | exact br.drew);rintro e w5 ⟨t5,rfl,GH,GF,o⟩;have T5:=ae GH;have K5:=ae o;have A5:=ae GF;have QY:=ae (QZ.out.trans (⟨o.below.os,o.below.tape,o.below.output,o.below.size,o.below.block⟩:Below c.heap.size W3 w5));clear GH GF o;have GP:=ae (fun(V:H) (G:Below w5.heap.size w5 V)=>pt c kb (0+n) (ef f (fun _=>[]) n) b1 o1 m c1 g V (by omega) GT Hb LG.out GM.out At.out (QY.out.trans (G.mono QY.out.size)) RG.out (A5.out.below G ly))))
    go_simp;go_wp2_with fail;go_meet;exact⟨t5,t6,W3.heap.size,w5.heap.size,ef g (ef f (fun _=>[]) n) m,_,_,rfl,rfl,T5.out.ka K6.out AC.out.lt,T6.out,un OF.out (rj _ _ _),un OG.out (ExtK.refl _),⟨QZ.out.size,QY.out.size⟩,E6.out⟩
   case rest =>
    obtain⟨A,t2,X,l2,K,T1,T2,rfl,rfl,⟨G1,S⟩,⟨G2,Fk⟩,qr,QX,HLL,HB⟩:=hcut;have ld:=ae S;have bt:=ae Fk;have S0:=ae (Al wc);have B5:=ae ((q9 wc).alloc ly (.map #[] 0));have N1:=ae (S.map.blk (B5.out.block _ S.map.lt));clear S Fk ZA AC;have la:=@QN Tryz.prog
    go_wp2_with (first
     | (at_range;refine zn _ rfl _ 98 rfl 103 Tryz.underlying98 A 100000 _ rfl N1.out ?_;intro w6 GL O mv GN)
     | go_in)
    go_frame;clear la;have e5:(wc.alloc (.map #[] 0)).heap.size=wc.heap.size+1:=by simp
    rw[e5] at O ⊢;have B6:=ae (B5.out.trans (cO (B:=wc.heap.size) mv B5.out.size (fun j hj=>by cases hj)));have S6:=ae (S0.out.blk (mv.block wc.heap.size (by rw[e5];omega) (by simp)));have R6:=ae O;have HZ:=oG;clear O mv GN e5 S0 N1;go_loopw [29] (fun _ wr=>∃ left cnt q L,q+cnt<=100000/\Hid (RgN wr A (wc.heap.size+1) 100000 (fun s=>(G1 s).map fun b=>.map (N b)) left cnt)/\Hid (SetIs wr wc.heap.size q L)/\Hid (L.Pairwise (· < ·))/\Hid (∀ s,s∈L ↔ left s=QQ/\(G1 s).isSome=QR/\eC f n g m s=QR)/\Hid (Below wc.heap.size wc wr)) (fun _ wr=>wr.rangeLeft A (wc.heap.size+1));case atStart =>
     refine⟨_,GL,0,[],by have:=R6.out.cnt_le;omega,R6.out,S6.out,List.Pairwise.nil,fun s=>?_,B6.out⟩;constructor
     ·intro h;cases h
     ·rintro⟨h1,h2,-⟩
      rw[Option.isSome_map,h2] at h1;cases h1
    case round =>
     obtain⟨left,cnt,q,L,hq,HR,HS,HP,HL,aq⟩:=hrel
     go_wp2_with (first
      | (at_next;refine Bl _ rfl _ rfl A (wc.heap.size+1) 100000 _ left cnt rfl HR.out ?_ ?_)
      | go_in)
     ·intro Q0
      have hL:L=R:=by
       rw[HE.out];refine qp HP.out (sX f n g m) fun s=>?_;rw[Dl OF.out OG.out,HL.out s];refine⟨fun h=>h.2.2,fun h=>⟨Q0 s,?_,h⟩⟩;obtain⟨t,u,ht,hu,_⟩:=(oU qr.out QX.out s).2 h;cases e:G1 s with
       | none=>exact absurd ht (ld.out.no s e t)
       | some b=>rfl
      subst hL;have l:=ae (B2.out.trans ((HB.out.trans (aq.out.mono HB.out.size)).mono B2.out.size));clear Q0;go_wp2_with (go_at_call 53;refine(yA wc.heap.size q L _ (by omega) HP.out HS.out).mono ?_;rintro e w8 ⟨v,rfl,ho,D⟩;have O8:=ae (aE ho l.out.size);have B9:=ae (l.out.trans (D.mono l.out.size));clear ho D);go_ret;exact⟨v,rfl,O8.out,B9.out⟩
     ·intro x v w7 M Bk GI b hb hv Q9 n8 ph GV hen7
      subst hv;have W:=ae Q9;have ZB:=ae (aq.out.trans (cO (B:=wc.heap.size) ph aq.out.size (fun j hj=>by cases hj;omega)));have S7:=ae (HS.out.blk (ph.block wc.heap.size HS.out.lt (by simp)));have M7:=ae (show w7.rangeLeft A (wc.heap.size+1)<wr.rangeLeft A (wc.heap.size+1) by rw[Q9.left_eq,HR.out.left_eq];exact n8);have N7:=ae (bt.out.map.blk (ZB.out.block _ bt.out.map.lt));have P1:=ae (hb ▸ ld.out.setO ZB.out ly x.toList);have P2:=ae (bt.out.setO ZB.out ly x.toList);have HX:=ae GI;have GY:=ae hb;have hq7:q+1+M<=100000:=by omega
      clear Q9 ph GV n8 hb GI;obtain⟨o2,fd⟩:∃ o2,o2=G2 x.toList:=⟨_,rfl⟩
      have GW:=ae (show((G2 x.toList).map fun b=>Value.map (N b)).getD (.map Z)=.map o2 by rw[fd];exact F8 _);rw[<-fd] at P2;clear fd
      go_wp2_with (first
       | (at_lookup;refine fi _ rfl _ _ 98 rfl 103 Tryz.underlying98 (HZ _) t2 100000 _ rfl N7.out x rfl Bk (.map o2) GW.out ?_)
       | (go_at_call 51;refine(Bs (N b) o2 100000 100000 (T1 x.toList) (T2 x.toList) _ P1.out P2.out).mono ?_;rintro e w8 ⟨r,rfl,GK,D⟩;have R8:=ae GK;have l:=ae D;clear GK D;have S8:=ae (S7.out.blk (l.out.block _ S7.out.lt)))
       | (go_at_call 52;refine(E9 wc.heap.size q L x _ (by omega) Bk S8.out).mono ?_;rintro e w9 ⟨rfl,Fn,GJ⟩;have S9:=ae Fn;have G9:=ae GJ;clear Fn GJ)
       | go_in)
      ·rename_i hr
       have P:eC f n g m x.toList=QR:=(oU qr.out QX.out _).1 (R8.out.1 hr);have F:=W.out.lt;have Rw:=W.out.blk (l.out.block _ F.1) (l.out.block _ F.2.1);have ro:=Rw.lt;have Rx:=Rw.blk (G9.out.block _ ro.1 (fun e=>by have:=ld.out.map.lt;cases e;omega)) (G9.out.block _ ro.2.1 (by simp));refine⟨⟨_,M,q+1,bX L x.toList,by omega,Rx,S9.out,oB HP.out _,fun s=>?_,ZB.out.trans ((l.out.mono ZB.out.size).trans (cO G9.out (j4 ZB.out.size l.out.size) (fun j hj=>by cases hj;exact j5 _)))⟩,?_⟩
       ·rw[fD,HL.out s]
        by_cases e:s=x.toList
        ·subst e
         simp[P,GY.out]
        ·simp[e]
       ·have:=M7.out
        rw[W.out.left_eq] at this;rw[Rx.left_eq];exact this
      ·rename_i hr
       have P:eC f n g m x.toList=QQ:=by
        cases e:eC f n g m x.toList with
        | false=>rfl
        | true =>have:=R8.out.2 ((oU qr.out QX.out _).2 e);rw[hr] at this;cases this
       have F:=W.out.lt;have Rw:=W.out.blk (l.out.block _ F.1) (l.out.block _ F.2.1);refine⟨⟨_,M,q,L,by omega,Rw,S8.out,HP.out,fun s=>?_,ZB.out.trans (l.out.mono ZB.out.size)⟩,?_⟩
       ·rw[HL.out s]
        by_cases e:s=x.toList
        ·subst e
         simp[P]
        ·simp[e]
       ·have:=M7.out
        rw[W.out.left_eq] at this;rw[Rw.left_eq];exact this
end Go.Proofs.YtamacmnikdejeaaGreatDoor.Vp
