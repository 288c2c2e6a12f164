import Derived.Test.YtkophfgkcijjkaaGreatDoorYO
import Derived.Test.YtkophfgkcijjkaaGreatDoorZR
import Derived.Deep.DeepCutAuto
set_option maxRecDepth 100000
set_option maxHeartbeats 4000000
namespace Go.Proofs.YtkophfgkcijjkaaGreatDoor.Vp
open RowKit
theorem tw (w:World):Calls Tryz.prog 151 #[.slice none 0 0] w fun e w'=>e=.returned (.slice none 0 0)∧w'=w:=by
 have hnl:∀ w:World,(binOp .eql 29 (.slice none 0 0) (.slice none 0 0)).run Tryz.prog w=.ok (.bool true) w:=fun w=>Lib.run_eql_slice_nil w _ _ _ _ _ _ _ Tryz.underlying29
 go_enter Tryz.func151,Tryz.ntmps151
 go_wp2
 go_ret
 exact ⟨rfl,rfl⟩
theorem kK (w:World) :
  Calls Tryz.prog 78 #[.agg #[.slice none 0 0]] w fun e w'=>e=.returned (.agg #[.slice none 0 0])∧Below w.heap.size w w':=by
 have A0:=ae (((Below.refl w.heap.size w).alloc lr (.cells #[.slice none 0 0] 31)).alloc (by simp) (.cells #[.slice none 0 0] 31))
 have k0:((w.alloc (.cells #[.slice none 0 0] 31)).alloc (.cells #[.slice none 0 0] 31)).cell? ⟨w.heap.size+1,0,none⟩=some (.slice none 0 0):=by simp
 have z0:((w.alloc (.cells #[.slice none 0 0] 31)).alloc (.cells #[.slice none 0 0] 31)).frozen? ⟨w.heap.size+1,0,none⟩=false:=by simp
 go_enter Tryz.func78,Tryz.ntmps78
 go_wp2_with fail
 refine (tw _).mono ?_
 rintro e w1 ⟨rfl,rfl⟩
 go_wp2
 exact bodyPost_ret (v:=.agg #[.slice none 0 0]) (by simp [results,Tryz.results78,go_sem,k0]) rfl ⟨rfl,A0.out⟩
theorem lA (a:Option Addr)(n cap:Nat)(f:Nat→Ins)(w:World)(hn:(n:Int)≤1048576)(h:(n=0∧a=none∧cap=0)∨∃ b off,a=some ⟨b,off,none⟩∧RowIns w b off n f) :
  Calls Tryz.prog 78 #[.agg #[.slice a n cap]] w fun e w'=>∃ v,e=.returned (.agg #[v])∧w'.ownsRow w.heap.size 176 3 v n (bP f n)∧Below w.heap.size w w':=by
 rcases h with ⟨rfl,rfl,rfl⟩ | ⟨b,off,rfl,hr⟩
 ·exact (kK w).mono fun e w' ⟨h1,h2⟩=>⟨_,h1,World.ownsRow_nil _ _ _ _,h2⟩
 ·exact (j8 b off n cap f w hn hr).mono fun e w' ⟨g,c,h1,h2,h3⟩=>⟨_,h1,h2,h3⟩
def lkV (made:List Ent)(ls:List Lk):List Value:=ls.flatMap fun l=>gB (lkD made l)
theorem vW (made:List Ent)(ls:List Lk):jA (lkF made ls) ls.length=lkV made ls:=by
 unfold jA lkV
 rw [show (List.range ls.length).map (lkF made ls)=ls.map (lkD made) from ?_,List.flatMap_map]
 refine List.ext_getElem? fun i=>?_
 rw [List.getElem?_map,List.getElem?_map]
 rcases Nat.lt_or_ge i ls.length with h | h
 ·rw [List.getElem?_range h,List.getElem?_eq_getElem h]
  simp only [Option.map_some]
  rw [kE (List.getElem?_eq_getElem h)]
 ·rw [List.getElem?_eq_none h,List.getElem?_eq_none (by simpa using h)]
  rfl
theorem oA (made:List Ent)(ls:List Lk){k:Nat}{l:Lk}(h:ls[k]?=some l):lkV made (ls.take (k+1))=lkV made (ls.take k)++gB (lkD made l):=by
 rw [List.take_add_one,h]
 simp [lkV]
theorem pS (w:World)(v0 v1 v2 v3:Value)(t:TypeId):∀ j u,[v0,v1,v2,v3][j]?=some u→(w.alloc (.cells #[v0,v1,v2,v3] t)).cell? ((⟨w.heap.size,0,none⟩:Addr).add j)=some u:=by
 intro j u h
 rw [addr_add]
 match j,h with
 | 0,h=>simp at h;subst h;simp
 | 1,h=>simp at h;subst h;simp
 | 2,h=>simp at h;subst h;simp
 | 3,h=>simp at h;subst h;simp
 | k+4,h=>simp at h
theorem uR {w:World}{base g c:Nat}{G:ByteArray→Nat}{ls:List Lk}(h:w.ownsRow base 214 5 (.slice (some ⟨g,0,none⟩) ls.length c) ls.length (dN G ls)){k:Nat}{l:Lk}(hl:ls[k]?=some l)(j:Nat)(hj:j<5){u:Value}(hu:(ik G l)[j]?=some u):w.cell? ⟨g,k*5+j,none⟩=some u :=
 (aX h (j:=k*5+j) (u:=u) (by rw [dN,cy (ik G) 5 (fun _=>rfl) ls k j hj l hl];exact hu)).1
theorem iu {w:World}{base size n b:Nat}{e t:TypeId}{v:Value}{xs:List Value}{cs:Array Value}(h:w.ownsRow base e size v n xs)(hb:w.heap[b]?=some (.cells cs t (0,0)))(k:v.ownBlock=some b)(hne:e≠t):False:=by
 obtain ⟨_,_,cs',hc⟩:=af h b k
 exact hne (ah hc hb)
theorem DBox.grown {w w':World}{b base size n:Nat}{v0 v1 v2 v3 v4 v5 v:Value}{e:TypeId}{xs:List Value}(h:DBox w b v0 v1 v2 v3 v4 v5)(ho:w.ownsRow base e size v n xs)(hg:w.grownBy w' v.ownBlock)(hb:b<base):DBox w' b v0 v1 v2 v3 v4 v5 :=
 h.blk hg.size (hg.block b h.lt fun e=>by have:=(ho.lt b e.symm).1;omega)
theorem lY {w w':World}{base size n base2 size2 n2:Nat}{v v2:Value}{e e2:TypeId}{xs xs2:List Value}(h:w.ownsRow base e size v n xs)(ho:w.ownsRow base2 e2 size2 v2 n2 xs2)(hg:w.grownBy w' v2.ownBlock)(hne:e≠e2):w'.ownsRow base e size v n xs :=
 bg h fun k hk=>hg.block k (h.lt k hk).2 fun q=>(qK h k hk).ne (Ne.symm hne) (qK ho k q.symm)
theorem pk (S:Spc)(made:List Ent)(G:ByteArray→Nat)(x:Ent)(w:World)(eb base:Nat)(a:Option Addr)(cap:Nat)(ties:Value)(pl:Int)
  (hb:EntBlk w eb x.name x.kind x.code x.text (.slice a (cD S x) cap) ties pl)
  (hact:(cD S x=0∧a=none∧cap=0)∨∃ b off,a=some ⟨b,off,none⟩∧RowIns w b off (cD S x) (S.f1 x.tg).act)
  (hn:cD S x≤1048576) (hl:x.looks.length≤200)
  (hr:w.ownsRow base 214 5 ties x.looks.length (dN G x.looks))
  (hp:∀ l∈x.looks,l.ask=true→w.cell? ⟨G l.name,7,none⟩=some (.int .i64 ((gC made l.name:Nat):Int))∧G l.name<w.heap.size) :
  Calls Tryz.prog 100 #[.pointer (some ⟨eb,0,none⟩)] w fun r w'=>∃ va vl,r=.returned (.agg #[.string x.name,.int .i64 x.kind,.int .i64 x.code,.string x.text,va,vl])∧DSub w' w.heap.size (aH S made x,va,vl)∧Below w.heap.size w w':=by
 obtain ⟨hbl,c0,c1,c2,c3,c4,c5,c6,-,-⟩:=hb.facts
 obtain ⟨at_,ct,rfl⟩:=bA hr
 obtain ⟨n,hnn⟩:∃ n,n=cD S x:=⟨_,rfl⟩
 obtain ⟨m,hm⟩:∃ m,m=x.looks.length:=⟨_,rfl⟩
 have HN:=ae hnn
 have HM:=ae hm
 have HR:=ae hr
 have HP:=ae hp
 rw [← hnn] at hact hn c4
 rw [← hm] at hl c6
 obtain ⟨i0',hi,hy0,hy1,hy2⟩:=info_parts tK
 have A0:=ae (((Below.refl w.heap.size w).alloc lr (.cells #[.string ⟨#[]⟩,.int .i64 0,.int .i64 0,.string ⟨#[]⟩,.slice none 0 0,.slice none 0 0] 67)).alloc (by simp) (.cells #[.string x.name,.int .i64 x.kind,.int .i64 x.code,.string x.text,.slice a n cap,.slice none 0 0] 67))
 have SS:=tN w (.string ⟨#[]⟩) (.int .i64 0) (.int .i64 0) (.string ⟨#[]⟩) (.slice none 0 0) (.slice none 0 0) (.string x.name) (.int .i64 x.kind) (.int .i64 x.code) (.string x.text) (.slice a n cap) (.slice none 0 0) 67
 have X0:=ae SS.1
 have Y0:=ae SS.2
 have HA:Hid ((n=0∧a=none∧cap=0)∨∃ b off,a=some ⟨b,off,none⟩∧RowIns ((w.alloc (.cells #[.string ⟨#[]⟩,.int .i64 0,.int .i64 0,.string ⟨#[]⟩,.slice none 0 0,.slice none 0 0] 67)).alloc (.cells #[.string x.name,.int .i64 x.kind,.int .i64 x.code,.string x.text,.slice a n cap,.slice none 0 0] 67)) b off n (S.f1 x.tg).act):=hact.imp id fun ⟨b,off,e,h⟩=>⟨b,off,e,h.below A0.out lr⟩
 have hz0:((w.alloc (.cells #[.string ⟨#[]⟩,.int .i64 0,.int .i64 0,.string ⟨#[]⟩,.slice none 0 0,.slice none 0 0] 67)).alloc (.cells #[.string x.name,.int .i64 x.kind,.int .i64 x.code,.string x.text,.slice a n cap,.slice none 0 0] 67)).heap.size=w.heap.size+2:=by simp
 have CT:=ae c6
 clear hact hr hp hb hnn hm SS
 go_enter Tryz.func100,Tryz.ntmps100
 go_wp2_with fail
 generalize (w.alloc (.cells #[.string ⟨#[]⟩,.int .i64 0,.int .i64 0,.string ⟨#[]⟩,.slice none 0 0,.slice none 0 0] 67)).alloc (.cells #[.string x.name,.int .i64 x.kind,.int .i64 x.code,.string x.text,.slice a n cap,.slice none 0 0] 67)=W0 at A0 X0 Y0 HA hz0 ⊢
 clear c0 c1 c2 c3 c4 c5 c6
 refine (lA a n cap (S.f1 x.tg).act _ (by omega) HA.out).mono ?_
 rintro e w1 ⟨va,rfl,hO0,hB0⟩
 obtain ⟨ag,cg,rfl⟩:=bA hO0
 have D1:=ae hB0
 have O1:=ae (aT hO0 (show w.heap.size+2≤W0.heap.size by omega))
 clear hO0 hB0
 have X1:=ae ((X0.out.below D1.out (by omega)).far (p:=⟨w.heap.size+1,4,none⟩) (by simp) (.slice ag n cg))
 have Y0':=ae (Y0.out.below D1.out (by omega))
 obtain ⟨y4,z4⟩:=Y0'.out.c4
 have Y1:=ae (Y0'.out.set4 (.slice ag n cg))
 have O2:=ae (aS (R:=w.heap.size+1) (j:=4) O1.out (by omega) (.slice ag n cg))
 have B2:=ae ((A0.out.trans (D1.out.mono A0.out.size)).setCell (p:=⟨w.heap.size+1,4,none⟩) (Nat.le_succ _) (.slice ag n cg))
 have hz1:w.heap.size+2≤(w1.setCell ⟨w.heap.size+1,4,none⟩ (.slice ag n cg)).heap.size:=by have:=D1.out.size;simp;omega
 have c6:(w1.setCell ⟨w.heap.size+1,4,none⟩ (.slice ag n cg)).cell? ⟨eb,6,none⟩=some (.slice at_ m ct):=(B2.out.cell (p:=⟨eb,6,none⟩) hbl).trans CT.out
 have hmI:(m:Int)≤200:=by omega
 go_wp2
 generalize w1.setCell ⟨w.heap.size+1,4,none⟩ (.slice ag n cg)=W2 at X1 Y1 O2 B2 hz1 c6 ⊢
 clear y4 z4 Y0' X0 Y0 O1 D1 HA c6 CT
 go_loopw [23] (fun i wr=>∃ (k:Nat) (a5:Option Addr) (c5:Nat),k≤m∧i=.int .i64 k∧Hid (DBox wr w.heap.size (.string ⟨#[]⟩) (.int .i64 0) (.int .i64 0) (.string ⟨#[]⟩) (.slice none 0 0) (.slice none 0 0))∧Hid (DBox wr (w.heap.size+1) (.string x.name) (.int .i64 x.kind) (.int .i64 x.code) (.string x.text) (.slice ag n cg) (.slice a5 k c5))∧Hid (wr.ownsRow (w.heap.size+2) 176 3 (.slice ag n cg) n (bP (S.f1 x.tg).act n))∧Hid (wr.ownsRow (w.heap.size+2) 73 4 (.slice a5 k c5) k (lkV made (x.looks.take k)))∧Hid (Below w.heap.size w wr)) (fun i _=>m - (intOf i).toNat)
 case atStart=>exact ⟨0,none,0,by omega,rfl,X1.out,Y1.out,O2.out,World.ownsRow_nil _ _ _ _,B2.out⟩
 case round =>
  clear X1 Y1 O2 B2 hz1
  obtain ⟨k,a5,c5,hk,rfl,X5,Y5,O5,P5,B5⟩:=hrel
  have hz5:w.heap.size+2≤wr.heap.size:=by have:=Y5.out.lt;omega
  by_cases hlt:k<m
  ·obtain ⟨l,hl⟩:∃ l,x.looks[k]?=some l:=⟨_,List.getElem?_eq_getElem (by rw [← HM.out];exact hlt)⟩
   obtain ⟨g,ct',e⟩:=fg HR.out (by rw [← HM.out];omega)
   simp only [Value.slice.injEq,true_and] at e
   obtain ⟨rfl,rfl⟩:=e
   have hgw:=(dn HR.out).2
   have tc:∀ j,j<5→∀ u,(ik G l)[j]?=some u→wr.cell? ⟨g,k*5+j,none⟩=some u:=fun j hj u hu=>(B5.out.cell (p:=⟨g,k*5+j,none⟩) hgw).trans (uR HR.out hl j hj hu)
   have f0:=tc 0 (by omega) _ rfl
   have f1:=tc 1 (by omega) _ rfl
   have f2:=tc 2 (by omega) _ rfl
   have f3:=tc 3 (by omega) _ rfl
   have f4:=tc 4 (by omega) _ rfl
   rw [show k*5+0=k*5 by omega] at f0
   have HL:=ae hl
   have HPL:Hid (l.ask=true→w.cell? ⟨G l.name,7,none⟩=some (.int .i64 ((gC made l.name:Nat):Int))∧G l.name<w.heap.size):=HP.out l (List.mem_of_getElem? hl)
   clear tc hl
   have hgr:g<wr.heap.size:=ll hgw B5.out.size
   obtain ⟨pt,hpt⟩:∃ pt,pt=(if l.ask=true then some (⟨G l.name,0,none⟩:Addr) else none):=⟨_,rfl⟩
   rw [← hpt] at f4
   have HPT:=ae hpt
   clear hpt
   have D6:=ae (((Below.refl wr.heap.size wr).alloc lr (.cells #[.string l.name,.bool l.ask,.bool l.has,.int .i64 0,.pointer pt] 214)).alloc (by simp) (.cells #[.string l.name,.bool l.ask,.bool l.has,.int .i64 0] 73))
   have X6:=ae (X5.out.below D6.out X5.out.lt)
   have Y6:=ae (Y5.out.below D6.out Y5.out.lt)
   have O6:=ae (own_below O5.out D6.out lr)
   have P6:=ae (own_below P5.out D6.out lr)
   have B6:=ae (B5.out.trans (D6.out.mono B5.out.size))
   have hz6:((wr.alloc (.cells #[.string l.name,.bool l.ask,.bool l.has,.int .i64 0,.pointer pt] 214)).alloc (.cells #[.string l.name,.bool l.ask,.bool l.has,.int .i64 0] 73)).heap.size=wr.heap.size+2:=by simp
   have e4:((wr.alloc (.cells #[.string l.name,.bool l.ask,.bool l.has,.int .i64 0,.pointer pt] 214)).alloc (.cells #[.string l.name,.bool l.ask,.bool l.has,.int .i64 0] 73)).cell? ⟨wr.heap.size,4,none⟩=some (.pointer pt):=by simp [go_sem]
   have LK:Hid (((wr.alloc (.cells #[.string l.name,.bool l.ask,.bool l.has,.int .i64 0,.pointer pt] 214)).alloc (.cells #[.string l.name,.bool l.ask,.bool l.has,.int .i64 0] 73)).heap[wr.heap.size+1]?=some (.cells #[.string l.name,.bool l.ask,.bool l.has,.int .i64 0] 73 (0,0))):=by
    have h2:=heap_alloc_new (wr.alloc (.cells #[.string l.name,.bool l.ask,.bool l.has,.int .i64 0,.pointer pt] 214)) (.cells #[.string l.name,.bool l.ask,.bool l.has,.int .i64 0] 73)
    rw [show (wr.alloc (.cells #[.string l.name,.bool l.ask,.bool l.has,.int .i64 0,.pointer pt] 214)).heap.size=wr.heap.size+1 by simp] at h2
    exact h2
   go_upto_if 30 with fail
   generalize (wr.alloc (.cells #[.string l.name,.bool l.ask,.bool l.has,.int .i64 0,.pointer pt] 214)).alloc (.cells #[.string l.name,.bool l.ask,.bool l.has,.int .i64 0] 73)=W6 at D6 X6 Y6 O6 P6 B6 hz6 e4 LK ⊢
   have P5L:Hid (∀ j,(Value.slice a5 k c5).ownBlock=some j→w.heap.size+2≤j∧j<wr.heap.size):=fun j e=>P5.out.lt j e
   clear f0 f1 f2 f3 f4 X5 Y5 O5 P5
   cases hask:l.ask with
   | false =>
    have HLD:Hid (gB (lkD made l)=[.string l.name,.bool false,.bool l.has,.int .i64 0]):=by show _=_;simp [gB,lkD,hask]
    have LK6:Hid (W6.heap[wr.heap.size+1]?=some (.cells #[.string l.name,.bool false,.bool l.has,.int .i64 0] 73 (0,0))):=by rw [hask] at LK;exact LK
    have l0:W6.cell? ⟨wr.heap.size+1,0,none⟩=some (.string l.name):=by simp [World.cell?,LK6.out]
    have l1:W6.cell? ⟨wr.heap.size+1,1,none⟩=some (.bool false):=by simp [World.cell?,LK6.out]
    have l2:W6.cell? ⟨wr.heap.size+1,2,none⟩=some (.bool l.has):=by simp [World.cell?,LK6.out]
    have l3:W6.cell? ⟨wr.heap.size+1,3,none⟩=some (.int .i64 0):=by simp [World.cell?,LK6.out]
    obtain ⟨d5,df5⟩:=Y6.out.c5
    have hzW:w.heap.size+2≤W6.heap.size:=by first | omega | (simp;omega)
    have AL:=ae ((Below.refl W6.heap.size W6).alloc lr (.cells #[.string l.name,.bool false,.bool l.has,.int .i64 0] 73))
    have XA:=ae (X6.out.below AL.out X6.out.lt)
    have YA:=ae (Y6.out.below AL.out Y6.out.lt)
    have OA:=ae (own_below O6.out AL.out lr)
    have PA:=ae (own_below P6.out AL.out lr)
    have BA:=ae (B6.out.trans (AL.out.mono B6.out.size))
    have hzA:W6.heap.size+1=(W6.alloc (.cells #[.string l.name,.bool false,.bool l.has,.int .i64 0] 73)).heap.size:=by simp
    go_wp2_with (at_builtin;refine wpList_append_own _ rfl (.tmp 38) (.tmp 40) 65 rfl (w.heap.size+2) 73 i0' (.agg #[.string ⟨#[]⟩,.bool false,.bool false,.int .i64 0]) 4 32 Tryz.underlying65 hi hy0 hy1 hy2 rfl (by decide) (.slice a5 k c5) k (lkV made (x.looks.take k)) (by simp [Act.eval]) PA.out ⟨W6.heap.size,0,none⟩ 1 1 [.string l.name,.bool false,.bool l.has,.int .i64 0] (by simp [Act.eval]) rfl (pS W6 _ _ _ _ _) (by simp [Value.oneCell']) (by unfold maxLen;omega) (by omega) (by simp;omega) ?_;intro v' w7 hown hgrow _;obtain ⟨a7,c7,rfl⟩:=bA hown;rw [← HLD.out,← oA made x.looks HL.out] at hown;have X8:=ae ((XA.out.grown PA.out hgrow (by omega)).far (p:=⟨w.heap.size+1,5,none⟩) (by simp) (.slice a7 (k+1) c7));have Y7':=ae (YA.out.grown PA.out hgrow (by omega));obtain ⟨g5,gf5⟩:=Y7'.out.c5;have Y8:=ae (Y7'.out.set5 (.slice a7 (k+1) c7));have O8:=ae (aS (R:=w.heap.size+1) (j:=5) (lY OA.out PA.out hgrow (by decide)) (by omega) (.slice a7 (k+1) c7));have P8:=ae (aS (R:=w.heap.size+1) (j:=5) hown (by omega) (.slice a7 (k+1) c7));have B8:=ae ((Below.grown BA.out hgrow BA.out.size (fun j e=>by have:=(PA.out.lt j e).1;omega)).setCell (p:=⟨w.heap.size+1,5,none⟩) (Nat.le_succ _) (.slice a7 (k+1) c7));clear hown hgrow)
    exact ⟨⟨k+1,a7,c7,by omega,by go_num,X8.out,Y8.out,O8.out,P8.out,B8.out⟩,by simp [intOf];omega⟩
   | true =>
    obtain ⟨q7,gl⟩:=HPL.out hask
    obtain ⟨q,hq⟩:∃ q:Int,q=((gC made l.name:Nat):Int):=⟨_,rfl⟩
    have HLD:Hid (gB (lkD made l)=[.string l.name,.bool true,.bool l.has,.int .i64 q]):=by show _=_;simp [gB,lkD,hask,hq]
    rw [← hq] at q7
    clear hq
    have g7:=(B6.out.cell (p:=⟨G l.name,7,none⟩) gl).trans q7
    have ept:pt=some ⟨G l.name,0,none⟩:=by rw [HPT.out,if_pos hask]
    subst ept
    rw [hask] at LK
    have k3:W6.cell? ⟨wr.heap.size+1,3,none⟩=some (.int .i64 0):=by simp [World.cell?,LK.out]
    have kf3:W6.frozen? ⟨wr.heap.size+1,3,none⟩=false:=by simp [World.frozen?,LK.out]
    have LK7:Hid ((W6.setCell ⟨wr.heap.size+1,3,none⟩ (.int .i64 q)).heap[wr.heap.size+1]?=some (.cells #[.string l.name,.bool true,.bool l.has,.int .i64 q] 73 (0,0))):=an LK.out _
    have X7:=ae (X6.out.far (p:=⟨wr.heap.size+1,3,none⟩) (by show wr.heap.size+1≠w.heap.size;omega) (.int .i64 q))
    have Y7:=ae (Y6.out.far (p:=⟨wr.heap.size+1,3,none⟩) (by show wr.heap.size+1≠w.heap.size+1;omega) (.int .i64 q))
    have O7:=ae (ar O6.out (b:=wr.heap.size+1) (fun e=>iu O6.out LK.out e (by decide)) 3 (.int .i64 q))
    have P7:=ae (ar P6.out (b:=wr.heap.size+1) (fun e=>by have:=(P5L.out _ e).2;omega) 3 (.int .i64 q))
    have B7:=ae (B6.out.setCell (p:=⟨wr.heap.size+1,3,none⟩) (by show w.heap.size≤wr.heap.size+1;omega) (.int .i64 q))
    have l0:(W6.setCell ⟨wr.heap.size+1,3,none⟩ (.int .i64 q)).cell? ⟨wr.heap.size+1,0,none⟩=some (.string l.name):=by simp [World.cell?,LK7.out]
    have l1:(W6.setCell ⟨wr.heap.size+1,3,none⟩ (.int .i64 q)).cell? ⟨wr.heap.size+1,1,none⟩=some (.bool true):=by simp [World.cell?,LK7.out]
    have l2:(W6.setCell ⟨wr.heap.size+1,3,none⟩ (.int .i64 q)).cell? ⟨wr.heap.size+1,2,none⟩=some (.bool l.has):=by simp [World.cell?,LK7.out]
    have l3:(W6.setCell ⟨wr.heap.size+1,3,none⟩ (.int .i64 q)).cell? ⟨wr.heap.size+1,3,none⟩=some (.int .i64 q):=by simp [World.cell?,LK7.out]
    obtain ⟨d5,df5⟩:=Y7.out.c5
    have hzW:w.heap.size+2≤(W6.setCell ⟨wr.heap.size+1,3,none⟩ (.int .i64 q)).heap.size:=by first | omega | (simp;omega)
    have AL:=ae ((Below.refl (W6.setCell ⟨wr.heap.size+1,3,none⟩ (.int .i64 q)).heap.size (W6.setCell ⟨wr.heap.size+1,3,none⟩ (.int .i64 q))).alloc lr (.cells #[.string l.name,.bool true,.bool l.has,.int .i64 q] 73))
    have XA:=ae (X7.out.below AL.out X7.out.lt)
    have YA:=ae (Y7.out.below AL.out Y7.out.lt)
    have OA:=ae (own_below O7.out AL.out lr)
    have PA:=ae (own_below P7.out AL.out lr)
    have BA:=ae (B7.out.trans (AL.out.mono B7.out.size))
    have hzA:(W6.setCell ⟨wr.heap.size+1,3,none⟩ (.int .i64 q)).heap.size+1=((W6.setCell ⟨wr.heap.size+1,3,none⟩ (.int .i64 q)).alloc (.cells #[.string l.name,.bool true,.bool l.has,.int .i64 q] 73)).heap.size:=by simp
    go_wp2_with (at_builtin;refine wpList_append_own _ rfl (.tmp 38) (.tmp 40) 65 rfl (w.heap.size+2) 73 i0' (.agg #[.string ⟨#[]⟩,.bool false,.bool false,.int .i64 0]) 4 32 Tryz.underlying65 hi hy0 hy1 hy2 rfl (by decide) (.slice a5 k c5) k (lkV made (x.looks.take k)) (by simp [Act.eval]) PA.out ⟨(W6.setCell ⟨wr.heap.size+1,3,none⟩ (.int .i64 q)).heap.size,0,none⟩ 1 1 [.string l.name,.bool true,.bool l.has,.int .i64 q] (by simp [Act.eval]) rfl (pS (W6.setCell ⟨wr.heap.size+1,3,none⟩ (.int .i64 q)) _ _ _ _ _) (by simp [Value.oneCell']) (by unfold maxLen;omega) (by omega) (by simp;omega) ?_;intro v' w7 hown hgrow _;obtain ⟨a7,c7,rfl⟩:=bA hown;rw [← HLD.out,← oA made x.looks HL.out] at hown;have X8:=ae ((XA.out.grown PA.out hgrow (by omega)).far (p:=⟨w.heap.size+1,5,none⟩) (by simp) (.slice a7 (k+1) c7));have Y7':=ae (YA.out.grown PA.out hgrow (by omega));obtain ⟨g5,gf5⟩:=Y7'.out.c5;have Y8:=ae (Y7'.out.set5 (.slice a7 (k+1) c7));have O8:=ae (aS (R:=w.heap.size+1) (j:=5) (lY OA.out PA.out hgrow (by decide)) (by omega) (.slice a7 (k+1) c7));have P8:=ae (aS (R:=w.heap.size+1) (j:=5) hown (by omega) (.slice a7 (k+1) c7));have B8:=ae ((Below.grown BA.out hgrow BA.out.size (fun j e=>by have:=(PA.out.lt j e).1;omega)).setCell (p:=⟨w.heap.size+1,5,none⟩) (Nat.le_succ _) (.slice a7 (k+1) c7));clear hown hgrow)
    exact ⟨⟨k+1,a7,c7,by omega,by go_num,X8.out,Y8.out,O8.out,P8.out,B8.out⟩,by simp [intOf];omega⟩
  ·have e:k=m:=by omega
   subst e
   obtain ⟨e0,_⟩:=Y5.out.c0
   obtain ⟨e1,_⟩:=Y5.out.c1
   obtain ⟨e2,_⟩:=Y5.out.c2
   obtain ⟨e3,_⟩:=Y5.out.c3
   obtain ⟨e4,_⟩:=Y5.out.c4
   obtain ⟨e5,_⟩:=Y5.out.c5
   obtain ⟨r0,q0⟩:=X5.out.c0
   obtain ⟨r1,q1⟩:=X5.out.c1
   obtain ⟨r2,q2⟩:=X5.out.c2
   obtain ⟨r3,q3⟩:=X5.out.c3
   obtain ⟨r4,q4⟩:=X5.out.c4
   obtain ⟨r5,q5⟩:=X5.out.c5
   have OF:=ae (aS (aS (aS (aS (aS (aS O5.out (R:=w.heap.size) (j:=0) (by omega) (.string x.name)) (R:=w.heap.size) (j:=1) (by omega) (.int .i64 x.kind)) (R:=w.heap.size) (j:=2) (by omega) (.int .i64 x.code)) (R:=w.heap.size) (j:=3) (by omega) (.string x.text)) (R:=w.heap.size) (j:=4) (by omega) (.slice ag n cg)) (R:=w.heap.size) (j:=5) (by omega) (.slice a5 k c5))
   have PF:=ae (aS (aS (aS (aS (aS (aS P5.out (R:=w.heap.size) (j:=0) (by omega) (.string x.name)) (R:=w.heap.size) (j:=1) (by omega) (.int .i64 x.kind)) (R:=w.heap.size) (j:=2) (by omega) (.int .i64 x.code)) (R:=w.heap.size) (j:=3) (by omega) (.string x.text)) (R:=w.heap.size) (j:=4) (by omega) (.slice ag n cg)) (R:=w.heap.size) (j:=5) (by omega) (.slice a5 k c5))
   have BF:=ae ((((((B5.out.setCell (p:=⟨w.heap.size,0,none⟩) lr (.string x.name)).setCell (p:=⟨w.heap.size,1,none⟩) lr (.int .i64 x.kind)).setCell (p:=⟨w.heap.size,2,none⟩) lr (.int .i64 x.code)).setCell (p:=⟨w.heap.size,3,none⟩) lr (.string x.text)).setCell (p:=⟨w.heap.size,4,none⟩) lr (.slice ag n cg)).setCell (p:=⟨w.heap.size,5,none⟩) lr (.slice a5 k c5))
   go_wp2
   refine bodyPost_ret (v:=.agg #[.string x.name,.int .i64 x.kind,.int .i64 x.code,.string x.text,.slice ag n cg,.slice a5 k c5]) (by simp [results,Tryz.results100,go_sem,r0,r1,r2,r3,r4,r5]) rfl ⟨_,_,rfl,⟨?_,?_⟩,BF.out⟩
   ·show World.ownsRow _ w.heap.size 176 3 (.slice ag n cg) (cD S x) (bP (S.f1 x.tg).act (cD S x))
    rw [← HN.out]
    exact aT OF.out (by omega)
   ·show World.ownsRow _ w.heap.size 73 4 (.slice a5 k c5) x.looks.length (jA (lkF made x.looks) x.looks.length)
    rw [vW,← HM.out]
    have h:=PF.out
    rw [List.take_of_length_le (by rw [← HM.out];exact Nat.le_refl _)] at h
    exact aT h (by omega)
end Go.Proofs.YtkophfgkcijjkaaGreatDoor.Vp
