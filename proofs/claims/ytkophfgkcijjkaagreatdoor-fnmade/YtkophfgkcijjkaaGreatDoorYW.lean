import Derived.Test.YtkophfgkcijjkaaGreatDoorYR
import Derived.Test.YtkophfgkcijjkaaGreatDoorYU
set_option maxRecDepth 100000
set_option maxHeartbeats 4000000
namespace Go.Proofs.YtkophfgkcijjkaaGreatDoor.Vp
open RowKit Ca
def rN (W:World)(B:Nat)(S:Spc)(x:Ent)(act:Value):Prop:=∃ a cap,act=.slice a (cD S x) cap∧((cD S x=0∧a=none∧cap=0)∨∃ b off,a=some ⟨b,off,none⟩∧b<B∧RowIns W b off (cD S x) (S.f1 x.tg).act)
structure Plc (B:Nat)(S:Spc)(W:World)(made:List Ent)(G:ByteArray→Nat)(V:ByteArray→Value)(k:Nat)(mdv:Value):Prop where
 row:W.ownsRow B 135 1 mdv made.length (gd G made)
 ent:∀ (i:Nat) (x:Ent),made[i]?=some x→B≤G x.name∧(∃ act,EntBlk W (G x.name) x.name x.kind x.code x.text act (V x.name) (if i<k then (i:Int) else 0)∧rN W B S x act)∧W.ownsRow B 214 5 (V x.name) x.looks.length (dN G x.looks)
 dist:made.Pairwise fun x y=>G x.name≠G y.name
theorem tE {wb W:World}{S:Spc}{made:List Ent}{mdv:Value}(h:gL wb S W made mdv)(hS:made≠[]→SpcOk S)(hk:made≠[]→∀ b off n f,0<n→RowIns wb b off n f→RowIns W b off n f):∃ G V,Plc wb.heap.size S W made G V 0 mdv:=by
 obtain ⟨G,V,h1,h2,h3⟩:=h
 refine ⟨G,V,h1,fun i x hx=>?_,h3⟩
 have hm:=List.mem_of_getElem? hx
 have hne:made≠[]:=fun e=>by rw [e] at hm;exact absurd hm List.not_mem_nil
 obtain ⟨⟨act,hb,ha⟩,hge,hr⟩:=h2 x hm
 refine ⟨hge,⟨act,by simpa using hb,?_⟩,hr⟩
 unfold jn at ha
 split at ha
 ·rename_i hk3
  obtain ⟨htg,a,cap,rfl,hsl⟩:=ha
  have e:cD S x=(S.f1 x.tg).actN:=by unfold cD;rw [if_pos hk3]
  obtain ⟨_,hv,_⟩:=bR ((hS hne).act x.tg htg)
  obtain ⟨b,off,rfl,hri⟩:=hsl.resolve_left (by omega)
  exact ⟨_,cap,by rw [e],.inr ⟨b,off,rfl,hri.1,by rw [e];exact hk hne b off _ _ (by omega) hri⟩⟩
 ·rename_i hk3
  have e:cD S x=0:=by unfold cD;rw [if_neg hk3]
  exact ⟨none,0,by rw [e];exact ha,.inl ⟨e,rfl,rfl⟩⟩
theorem Plc.next {B:Nat}{S:Spc}{W:World}{made:List Ent}{G:ByteArray→Nat}{V:ByteArray→Value}{k:Nat}{mdv:Value}{y:Ent}(h:Plc B S W made G V k mdv)(hy:made[k]?=some y):Plc B S (W.setCell ⟨G y.name,7,none⟩ (.int .i64 (k:Int))) made G V (k+1) mdv:=by
 obtain ⟨hyB,⟨acty,hby,hay⟩,hry⟩:=h.ent k y hy
 have hoff:∀ {size n:Nat} {e:TypeId} {v:Value} {xs:List Value},W.ownsRow B e size v n xs→e≠138→(W.setCell ⟨G y.name,7,none⟩ (.int .i64 (k:Int))).ownsRow B e size v n xs:=fun ho hne=>ar ho (fun e=>iu ho hby e hne) _ _
 have hact:∀ {x:Ent} {act:Value},rN W B S x act→rN (W.setCell ⟨G y.name,7,none⟩ (.int .i64 (k:Int))) B S x act:=fun ⟨a,cap,e,ha⟩=>⟨a,cap,e,ha.imp id fun ⟨b,off,e1,hb,hr⟩=>⟨b,off,e1,hb,hr.setOther _ (by show G y.name≠b;omega) _⟩⟩
 refine ⟨hoff h.row (by decide),fun i x hx=>?_,h.dist⟩
 obtain ⟨hxB,⟨act,hb,ha⟩,hr⟩:=h.ent i x hx
 refine ⟨hxB,⟨act,?_,hact ha⟩,hoff hr (by decide)⟩
 by_cases e:i=k
 ·subst e
  rw [hy] at hx
  cases hx
  rw [if_pos (Nat.lt_succ_self _)]
  rw [if_neg (Nat.lt_irrefl _)] at hb
  exact an hb _
 ·have hne:G x.name≠G y.name:=by
   obtain ⟨hi,ei⟩:=List.getElem?_eq_some_iff.1 hx
   obtain ⟨hk,ek⟩:=List.getElem?_eq_some_iff.1 hy
   rcases Nat.lt_or_gt_of_ne e with hlt | hlt
   ·have:=List.pairwise_iff_getElem.1 h.dist i k hi hk hlt
    rw [ei,ek] at this
    exact this
   ·have:=List.pairwise_iff_getElem.1 h.dist k i hk hi hlt
    rw [ei,ek] at this
    exact this.symm
  rw [show (if i<k+1 then (i:Int) else 0)=if i<k then (i:Int) else 0 by by_cases q:i<k<;>simp [q,show i<k+1 ↔ i<k by omega]]
  exact (Below.heap_setCell _ _ _ _ hne).trans hb
theorem Plc.keep {B:Nat}{S:Spc}{W W':World}{made:List Ent}{G:ByteArray→Nat}{V:ByteArray→Value}{k:Nat}{mdv:Value}(h:Plc B S W made G V k mdv)(hz:W.heap.size≤W'.heap.size)(hk:∀ j,j<W.heap.size→W'.heap[j]?=W.heap[j]?):Plc B S W' made G V k mdv:=by
 refine ⟨bg h.row fun j hj=>hk j (h.row.lt j hj).2,fun i x hx=>?_,h.dist⟩
 obtain ⟨hxB,⟨act,hb,a,cap,e,ha⟩,hr⟩:=h.ent i x hx
 refine ⟨hxB,⟨act,(hk _ (ai hb)).trans hb,a,cap,e,ha.imp id fun ⟨b,off,e1,hb,hri⟩=>⟨b,off,e1,hb,ll hri.1 hz,fun j hj=>?_⟩⟩,bg hr fun j hj=>hk j (hr.lt j hj).2⟩
 have e:=hk b hri.1
 obtain ⟨h0,h1,h2⟩:=hri.2 j hj
 exact ⟨(World.cell?_of_block (a:=⟨b,_,none⟩) e).trans h0,(World.cell?_of_block (a:=⟨b,_,none⟩) e).trans h1,(World.cell?_of_block (a:=⟨b,_,none⟩) e).trans h2⟩
theorem Only.grown {b:Nat}{W w w':World}{row:Option Nat}(h:Only b W w)(hg:w.grownBy w' row)(hr:∀ j,row=some j→W.heap.size≤j):Only b W w':=by
 have key:∀ k,k<W.heap.size→w'.heap[k]?=w.heap[k]?:=fun k hk=>hg.block k (ll hk h.size) fun e=>by have:=hr k e.symm;omega
 exact ⟨hg.os.trans h.os,hg.tape.trans h.tape,hg.output.trans h.output,Nat.le_trans h.size hg.size,fun k hk ho=>(key k hk).trans (h.block k hk ho),fun cs t fz hb=>let ⟨cs',h'⟩:=h.ty cs t fz hb;⟨cs',(key b (az hb)).trans h'⟩⟩
theorem wQ (w:World)(v0 v1 v2 v3 v4 v5:Value)(t:TypeId):∀ j u,[v0,v1,v2,v3,v4,v5][j]?=some u→(w.alloc (.cells #[v0,v1,v2,v3,v4,v5] t)).cell? ((⟨w.heap.size,0,none⟩:Addr).add j)=some u:=by
 intro j u h
 rw [addr_add]
 match j,h with
 | 0,h=>simp at h;subst h;simp
 | 1,h=>simp at h;subst h;simp
 | 2,h=>simp at h;subst h;simp
 | 3,h=>simp at h;subst h;simp
 | 4,h=>simp at h;subst h;simp
 | 5,h=>simp at h;subst h;simp
 | k+6,h=>simp at h
theorem Plc.settled {B:Nat}{S:Spc}{W:World}{made:List Ent}{G:ByteArray→Nat}{V:ByteArray→Value}{mdv:Value}(h:Plc B S W made G V made.length mdv)(hg:PG S [] made)(hf:∀ i,i<S.n1→bh (S.f1 i)){i:Nat}{x:Ent}(hx:made[i]?=some x) :
  Calls Tryz.prog 100 #[.pointer (some ⟨G x.name,0,none⟩)] W fun r w'=>∃ va vl,r=.returned (.agg #[.string x.name,.int .i64 x.kind,.int .i64 x.code,.string x.text,va,vl])∧DSub w' W.heap.size (aH S made x,va,vl)∧Below W.heap.size W w':=by
 obtain ⟨_,⟨act,hb,a,cap,rfl,ha⟩,hr⟩:=h.ent i x hx
 have hm:=List.mem_of_getElem? hx
 have hfd:=lS hg hf (aH S made x) (List.mem_map_of_mem hm)
 refine pk S made G x W (G x.name) B a cap (V x.name) _ hb (ha.imp id fun ⟨b,off,e,_,hri⟩=>⟨b,off,e,hri⟩) hfd.1 (hg.ents x hm).looks hr fun l hl hk=>?_
 obtain ⟨y,hy,hn,hlt⟩:=hg.asked hx hl hk
 obtain ⟨_,⟨acty,hby,_⟩,_⟩:=h.ent _ y hy
 obtain ⟨hyl,-,-,-,-,-,-,-,y7,-⟩:=hby.facts
 rw [if_pos (List.getElem?_eq_some_iff.1 hy).1] at y7
 rw [hn] at y7 hyl
 exact ⟨y7,hyl⟩
section
variable {S:Spc}{a0 a1:Option Addr}{c0 c1:Nat}
theorem oF (w:World)(nm:ByteArray)(hv0:SlSource w a0 S.n0 S.f0)(hv1:SlTarget w a1 S.n1 S.f1)(hn0:S.n0≤1048576)(hn1:S.n1≤1048576)(hfit:∀ i,i<S.n1→bh (S.f1 i))(hT:Tab w)(hT2:Tab2 w)(hP:Pow w) :
  Calls Tryz.prog 29 #[.agg #[.slice a0 S.n0 c0,.slice a1 S.n1 c1],.string nm] w fun e w'=>∃ a c R rv,e=.returned (.tuple #[.agg #[.slice a R.length c],rv])∧DRow w' w.heap.size (.slice a R.length c) R∧R.map (·.1)=a8 S (bp S nm).1∧fy w w' (bp S nm).2 rv∧Below w.heap.size w w':=by
 have A0:=ae ((((Below.refl w.heap.size w).alloc lr (.cells #[.slice a0 S.n0 c0,.slice a1 S.n1 c1] 26)).alloc (by simp) (.cells #[.slice none 0 0] 59)).alloc (by simp<;>omega) (.cells #[.int .i64 0,.string ⟨#[]⟩,.slice none 0 0] 41))
 have HB:=ae (mg (c0:=c0) (c1:=c1) (((w.alloc (.cells #[.slice a0 S.n0 c0,.slice a1 S.n1 c1] 26)).alloc (.cells #[.slice none 0 0] 59)).alloc (.cells #[.int .i64 0,.string ⟨#[]⟩,.slice none 0 0] 41)) nm (hv0.below A0.out lr) (hv1.below A0.out lr) hn0 hn1 hfit (hT.below A0.out hT.1) (hT2.below A0.out hT2.1) (hP.below A0.out lr))
 have kA:Hid ((((w.alloc (.cells #[.slice a0 S.n0 c0,.slice a1 S.n1 c1] 26)).alloc (.cells #[.slice none 0 0] 59)).alloc (.cells #[.int .i64 0,.string ⟨#[]⟩,.slice none 0 0] 41)).heap[w.heap.size+1]?=some (.cells #[.slice none 0 0] 59 (0,0))):=by
  have h2:=heap_alloc_new (w.alloc (.cells #[.slice a0 S.n0 c0,.slice a1 S.n1 c1] 26)) (.cells #[.slice none 0 0] 59)
  rw [show (w.alloc (.cells #[.slice a0 S.n0 c0,.slice a1 S.n1 c1] 26)).heap.size=w.heap.size+1 by simp] at h2
  exact (((Below.refl (w.heap.size+2) _).alloc (by simp) _).block (w.heap.size+1) (by omega)).trans h2
 have kR:Hid ((((w.alloc (.cells #[.slice a0 S.n0 c0,.slice a1 S.n1 c1] 26)).alloc (.cells #[.slice none 0 0] 59)).alloc (.cells #[.int .i64 0,.string ⟨#[]⟩,.slice none 0 0] 41)).heap[w.heap.size+1+1]?=some (.cells #[.int .i64 0,.string ⟨#[]⟩,.slice none 0 0] 41 (0,0))):=by
  have h2:=heap_alloc_new ((w.alloc (.cells #[.slice a0 S.n0 c0,.slice a1 S.n1 c1] 26)).alloc (.cells #[.slice none 0 0] 59)) (.cells #[.int .i64 0,.string ⟨#[]⟩,.slice none 0 0] 41)
  rw [show ((w.alloc (.cells #[.slice a0 S.n0 c0,.slice a1 S.n1 c1] 26)).alloc (.cells #[.slice none 0 0] 59)).heap.size=w.heap.size+1+1 by simp] at h2
  exact h2
 have hz0:(((w.alloc (.cells #[.slice a0 S.n0 c0,.slice a1 S.n1 c1] 26)).alloc (.cells #[.slice none 0 0] 59)).alloc (.cells #[.int .i64 0,.string ⟨#[]⟩,.slice none 0 0] 41)).heap.size=w.heap.size+3:=by simp
 obtain ⟨hpg,hlen,hsok⟩:=rs S nm
 have HFT:=ae hfit
 obtain ⟨bb,hbb⟩:∃ bb,bb=bp S nm:=⟨_,rfl⟩
 rw [← hbb] at HB hpg hlen hsok ⊢
 clear hv0 hv1 hfit hT hT2 hP hbb
 obtain ⟨made,r⟩:=bb
 simp only at hpg hlen hsok ⊢
 have HPG:=ae hpg
 have HSO:=ae hsok
 clear hpg hsok
 obtain ⟨i0',hi,hy0,hy1,hy2⟩:=info_parts tL
 go_enter Tryz.func29,Tryz.ntmps29
 go_wp2_with fail
 generalize ((w.alloc (.cells #[.slice a0 S.n0 c0,.slice a1 S.n1 c1] 26)).alloc (.cells #[.slice none 0 0] 59)).alloc (.cells #[.int .i64 0,.string ⟨#[]⟩,.slice none 0 0] 41)=W0 at A0 HB kA kR hz0 ⊢
 refine HB.out.mono ?_
 rintro e w1 ⟨wb,mdv,rv,hwb,rfl,hmade,⟨a,c,rfl,hown⟩,hB1,hkeep⟩
 obtain ⟨G,V,hplc⟩:=tE hmade HSO.out hkeep
 obtain ⟨am,cm,rfl⟩:=bA hplc.row
 have hwb0:W0.heap.size≤wb.heap.size:=hwb.size
 have A1:=ae ((Below.refl w1.heap.size w1).alloc lr (.cells #[.int .i64 r.code,.string r.text,.slice a r.chain.length c] 41))
 have O1:=ae (own_below hown A1.out lr)
 have P1:=ae (hplc.keep A1.out.size fun j hj=>A1.out.block j hj)
 have B1:=ae (hB1.trans (A1.out.mono hB1.size))
 have k1:Hid ((w1.alloc (.cells #[.int .i64 r.code,.string r.text,.slice a r.chain.length c] 41)).heap[w1.heap.size]?=some (.cells #[.int .i64 r.code,.string r.text,.slice a r.chain.length c] 41 (0,0))):=heap_alloc_new _ _
 have hz1:W0.heap.size≤w1.heap.size:=hB1.size
 obtain ⟨B,hBB⟩:∃ B,B=wb.heap.size:=⟨_,rfl⟩
 rw [← hBB] at P1 hwb0
 clear hwb hmade hown hB1 hkeep hplc hBB HB HSO
 obtain ⟨L,hL⟩:∃ L,L=made.length:=⟨_,rfl⟩
 have HL:=ae hL
 rw [← hL] at hlen P1 ⊢
 clear hL
 go_wp2
 generalize w1.alloc (.cells #[.int .i64 r.code,.string r.text,.slice a r.chain.length c] 41)=W1 at A1 O1 P1 B1 k1 ⊢
 generalize w1.heap.size=rb at k1 hz1 ⊢
 clear A1
 go_loopw [21] (fun i wr=>∃ k:Nat,k≤L∧i=.int .i64 k∧Hid (Plc B S wr made G V k (.slice am L cm))∧Hid (wr.heap[rb]?=some (.cells #[.int .i64 r.code,.string r.text,.slice a r.chain.length c] 41 (0,0)))∧Hid (wr.ownsRow W0.heap.size 9 1 (.slice a r.chain.length c) r.chain.length (aU r.chain))∧Hid (Below W0.heap.size W0 wr)) (fun i _=>L - (intOf i).toNat)
 case atStart=>exact ⟨0,by omega,rfl,P1.out,k1.out,O1.out,B1.out⟩
 case round =>
  clear P1 k1 O1 B1
  obtain ⟨k,hk,rfl,P2,k2,O2,B2⟩:=hrel
  by_cases hlt:k<L
  ·obtain ⟨y,hy⟩:∃ y,made[k]?=some y:=⟨_,List.getElem?_eq_getElem (by rw [← HL.out];exact hlt)⟩
   obtain ⟨hyB,⟨act,hby,-⟩,-⟩:=P2.out.ent k y hy
   have hrow:=P2.out.row
   rw [← HL.out] at hrow
   obtain ⟨gm,cm',e⟩:=fg hrow (by omega)
   simp only [Value.slice.injEq,true_and] at e
   obtain ⟨rfl,rfl⟩:=e
   have cp:wr.cell? ⟨gm,k,none⟩=some (.pointer (some ⟨G y.name,0,none⟩)):=(aX hrow (by rw [gd,List.getElem?_map,hy];rfl)).1
   have hgl:=(dn hrow).2
   obtain ⟨hyl,-,-,-,-,-,-,-,y7,yf⟩:=hby.facts
   have yf7:=yf 7
   have P3:=ae (P2.out.next hy)
   have k3:Hid ((wr.setCell ⟨G y.name,7,none⟩ (.int .i64 (k:Int))).heap[rb]?=some (.cells #[.int .i64 r.code,.string r.text,.slice a r.chain.length c] 41 (0,0))):=(Below.heap_setCell _ _ _ _ (fun e=>by have:=ah (e ▸ k2.out) hby;exact absurd this (by decide))).trans k2.out
   have O3:=ae (ar O2.out (fun e=>iu O2.out hby e (by decide)) 7 (.int .i64 (k:Int)))
   have B3:=ae (B2.out.setCell (p:=⟨G y.name,7,none⟩) (by show W0.heap.size≤G y.name;omega) (.int .i64 (k:Int)))
   clear hy yf hby hrow
   go_wp2
   exact ⟨⟨k+1,by omega,by go_num,P3.out,k3.out,O3.out,B3.out⟩,by simp [intOf];omega⟩
  ·have e:k=L:=by omega
   subst e
   have A3:=ae ((Below.refl wr.heap.size wr).alloc lr (.cells #[.slice none 0 0] 59))
   have k3:Hid ((wr.alloc (.cells #[.slice none 0 0] 59)).heap[wr.heap.size]?=some (.cells #[.slice none 0 0] 59 (0,0))):=heap_alloc_new _ _
   have hz3:(wr.alloc (.cells #[.slice none 0 0] 59)).heap.size=wr.heap.size+1:=by simp
   go_wp2
   generalize wr.alloc (.cells #[.slice none 0 0] 59)=W3 at A3 k3 hz3 ⊢
   obtain ⟨WA,hWA⟩:∃ WA,WA=wr:=⟨_,rfl⟩
   subst hWA
   go_loopw [33] (fun i wq=>∃ (q:Nat) (a5:Option Addr) (c5:Nat) (R:List DR),q≤k∧i=.int .i64 q∧R.length=q∧Hid (R.map (·.1)=(made.take q).map (aH S made))∧Hid (DRow wq W3.heap.size (.slice a5 q c5) R)∧Hid (wq.heap[WA.heap.size]?=some (.cells #[.slice a5 q c5] 59 (0,0)))∧Hid (Only WA.heap.size W3 wq)) (fun i _=>k - (intOf i).toNat)
   case atStart=>exact ⟨0,none,0,[],by omega,rfl,rfl,rfl,tU _ _,k3.out,Only.refl _ _⟩
   case round =>
    obtain ⟨q,a5,c5,R,hq,rfl,hRq,HRM,D4,k4,Y4⟩:=hrel
    have hz4:W3.heap.size≤wr.heap.size:=Y4.out.size
    have hab:WA.heap.size<W3.heap.size:=by omega
    by_cases hlq:q<k
    ·obtain ⟨x,hx⟩:∃ x,made[q]?=some x:=⟨_,List.getElem?_eq_getElem (by rw [← HL.out];exact hlq)⟩
     have P5:Hid (Plc B S wr made G V made.length (.slice am k cm)):=by
      have h:=P2.out.keep (W':=wr) (by omega) fun j hj=>(Y4.out.block j (by omega) (by omega)).trans (A3.out.block j hj)
      rw [← HL.out]
      exact h
     have hrow:=P5.out.row
     rw [← HL.out] at hrow
     obtain ⟨gm,cm',e⟩:=fg hrow (by omega)
     simp only [Value.slice.injEq,true_and] at e
     obtain ⟨rfl,rfl⟩:=e
     have cp:wr.cell? ⟨gm,q,none⟩=some (.pointer (some ⟨G x.name,0,none⟩)):=(aX hrow (by rw [gd,List.getElem?_map,hx];rfl)).1
     have hgl:=(dn hrow).2
     have HST:Hid (Calls Tryz.prog 100 #[.pointer (some ⟨G x.name,0,none⟩)] wr.drew fun r w'=>∃ va vl,r=.returned (.agg #[.string x.name,.int .i64 x.kind,.int .i64 x.code,.string x.text,va,vl])∧DSub w' wr.drew.heap.size (aH S made x,va,vl)∧Below wr.drew.heap.size wr.drew w'):=(P5.out.keep (W':=wr.drew) lr fun j _=>rfl).settled HPG.out HFT.out hx
     have HX:=ae hx
     have SQ:Hid (∀ V:World,(∀ j,j<wr.heap.size→some j≠(Value.slice a5 q c5).ownBlock→V.heap[j]?=wr.heap[j]?)→V.heap[WA.heap.size]?=some (.cells #[.slice a5 q c5] 59 (0,0))∧V.cell? ⟨WA.heap.size,0,none⟩=some (.slice a5 q c5)):=fun V hV=>by
      have h1:=(hV WA.heap.size (ai k4.out) fun e=>by have h:=D4.out.own;rw [hRq] at h;have:=(h.lt _ e.symm).1;omega).trans k4.out
      exact ⟨h1,by simp [World.cell?,h1]⟩
     clear hrow hx
     go_wp2_with fail
     refine aN (fun V=>V.heap[WA.heap.size]?=some (.cells #[.slice a5 q c5] 59 (0,0))∧V.cell? ⟨WA.heap.size,0,none⟩=some (.slice a5 q c5)) 7 (by as_aux_lemma=>kernel_rfl) ?_
     have HS:=ae (SQ.out wr.drew (fun j hj _=>rfl))
     iterate 3
      refine aF 0 (v:=?_) rfl rfl (by as_aux_lemma=>kernel_rfl) (fun _ _ _ h=>h) rfl ?_ HS.out ?_
      rotate_left
      ·(intro wz hSw;obtain ⟨s0,s1⟩:=hSw;go_simp)
       (try with_reducible rfl)
      (try simp only [Act.put,nzL])
     refine aj (i:=3) rfl (by as_aux_lemma=>kernel_rfl) (fun K hK=>?_)
     go_simp
     go_at_call 100
     refine HST.out.mono ?_
     rintro e w5 ⟨va,vl,rfl,hS5,hB5⟩
     have hA5:w5.ownsRow wr.heap.size 176 3 va (cD S x) (bP (S.f1 x.tg).act (cD S x)):=hS5.act
     have hL5:w5.ownsRow wr.heap.size 73 4 vl x.looks.length (jA (lkF made x.looks) x.looks.length):=hS5.lnk
     obtain ⟨n4,hn4⟩:∃ n4,n4=cD S x:=⟨_,rfl⟩
     obtain ⟨n5,hn5⟩:∃ n5,n5=x.looks.length:=⟨_,rfl⟩
     rw [← hn4] at hA5
     rw [← hn5] at hL5
     obtain ⟨ag,cg,rfl⟩:=bA hA5
     obtain ⟨al,cl,rfl⟩:=bA hL5
     clear hA5 hL5
     have B5:Hid (Below wr.heap.size wr w5):=⟨hB5.os,hB5.tape,hB5.output,hB5.size,hB5.block⟩
     have S5:Hid (DSub w5 wr.heap.size (aH S made x,.slice ag n4 cg,.slice al n5 cl)):=hS5
     clear hS5 hB5 hn4 hn5
     refine hK.out _ _ (fun _=>SQ.out _ (fun j hj _=>B5.out.block j hj)) ?_
     clear hK K HS
     (try simp only [Act.put,nzL])
     refine aj (i:=4) rfl (by as_aux_lemma=>kernel_rfl) (fun K hK=>?_)
     go_simp
     have AB:=ae ((Below.refl w5.heap.size w5).alloc lr (.cells #[.string x.name,.int .i64 x.kind,.int .i64 x.code,.string x.text,.slice ag n4 cg,.slice al n5 cl] 67))
     have B6:=ae (B5.out.trans (AB.out.mono B5.out.size))
     have D6:=ae (D4.out.below B6.out lr)
     have S6:=ae (S5.out.below AB.out lr)
     have OW:Hid (World.ownsRow (w5.alloc (.cells #[.string x.name,.int .i64 x.kind,.int .i64 x.code,.string x.text,.slice ag n4 cg,.slice al n5 cl] 67)) W3.heap.size 67 6 (.slice a5 q c5) q (R.flatMap ddV)):=by have h:=D6.out.own;rw [hRq] at h;exact h
     refine hK.out _ _ (fun _=>SQ.out _ (fun j hj _=>B6.out.block j hj)) ?_
     clear hK K
     (try simp only [Act.put,nzL])
     refine aj (i:=5) rfl (by as_aux_lemma=>kernel_rfl) (fun K hK=>?_)
     refine aK rfl (.tmp 38) (.tmp 41) 57 rfl W3.heap.size 67 i0' (.agg #[.string ⟨#[]⟩,.int .i64 0,.int .i64 0,.string ⟨#[]⟩,.slice none 0 0,.slice none 0 0]) 6 96 Tryz.underlying57 hi hy0 hy1 hy2 rfl (by decide) (.slice a5 q c5) q (R.flatMap ddV) (by simp [Act.eval]) OW.out ⟨w5.heap.size,0,none⟩ 1 1 [.string x.name,.int .i64 x.kind,.int .i64 x.code,.string x.text,.slice ag n4 cg,.slice al n5 cl] (by simp [Act.eval]) rfl (wQ w5 _ _ _ _ _ _ _) (by simp [Value.oneCell']) (by unfold maxLen;omega) (by omega) (by have:=B6.out.size;omega) ?_
     intro v' w7 hown hgrow _
     obtain ⟨a7,c7,rfl⟩:=bA hown
     have hvb:∀ j,(Value.slice a5 q c5).ownBlock=some j→W3.heap.size≤j:=fun j e=>(OW.out.lt j e).1
     have S7:=ae (SQ.out w7 (fun j hj hne=>(hgrow.block j (ll hj B6.out.size) hne).trans (B6.out.block j hj)))
     have D7:Hid (DRow w7 W3.heap.size (.slice a7 (q+1) c7) (R++[(aH S made x,.slice ag n4 cg,.slice al n5 cl)])):=DRow.more D4.out D6.out hz4 S6.out (by rw [hRq];exact hown) hgrow
     have Y7:=ae ((Y4.out.trans (Only.of_below B6.out)).grown hgrow hvb)
     clear hown hgrow hvb
     refine hK.out _ _ (fun _=>S7.out) ?_
     clear hK K
     (try simp only [Act.put,nzL])
     refine aj (i:=6) rfl (by as_aux_lemma=>kernel_rfl) (fun K hK=>?_)
     go_simp
     refine hK.out _ _ (fun _=>S7.out) ?_
     clear hK K
     (try simp only [Act.put,nzL])
     obtain ⟨s7,t7⟩:=S7.out
     have f7:w7.frozen? ⟨WA.heap.size,0,none⟩=false:=by simp [World.frozen?,s7]
     have l7:=ai s7
     have D8:=ae (D7.out.set (p:=⟨WA.heap.size,0,none⟩) (e:=59) (.inl hab) (.slice a7 (q+1) c7))
     have k8:Hid ((w7.setCell ⟨WA.heap.size,0,none⟩ (.slice a7 (q+1) c7)).heap[WA.heap.size]?=some (.cells #[.slice a7 (q+1) c7] 59 (0,0))):=an s7 _
     have Y8:=ae (bC Y7.out 0 (.slice a7 (q+1) c7))
     clear s7
     refine aj (i:=7) rfl (by as_aux_lemma=>kernel_rfl) (fun K hK=>?_)
     go_simp
     refine hK.out _ _ (fun h=>absurd rfl h) ?_
     clear hK K
     (try simp only [Act.put,nzL])
     refine bc (by as_aux_lemma=>kernel_rfl) ?_ _
     go_wp2
     refine ⟨⟨q+1,a7,c7,_,by omega,by go_num,by rw [List.length_append,hRq];rfl,?_,D8.out,k8.out,Y8.out⟩,by simp [intOf];omega⟩
     show (R++[((aH S made x,.slice ag n4 cg,.slice al n5 cl):DR)]).map (·.1)=_
     rw [List.map_append,HRM.out,List.take_add_one,HX.out]
     simp
    ·have e:q=k:=by omega
     subst e
     have hab2:WA.heap.size≠w.heap.size+1:=by have:=B2.out.size;omega
     have hab3:WA.heap.size≠w.heap.size+1+1:=by have:=B2.out.size;omega
     have hwA:=B2.out.size
     have BW:Hid (Below W0.heap.size W0 wr):=B2.out.trans ((A3.out.mono (by omega)).trans (Y4.out.below (by omega) (by omega)))
     have kA4:=(BW.out.block (w.heap.size+1) (by omega)).trans kA.out
     have kR4:=(BW.out.block (w.heap.size+1+1) (by omega)).trans kR.out
     have hrbA:rb<WA.heap.size:=ai k2.out
     have k24:wr.heap[rb]?=_:=(Y4.out.block rb (by omega) (by omega)).trans ((A3.out.block rb hrbA).trans k2.out)
     have O4:Hid (wr.ownsRow W0.heap.size 9 1 (.slice a r.chain.length c) r.chain.length (aU r.chain)):=bg O2.out fun j hj=>(Y4.out.block j (by have:=(O2.out.lt j hj).2;omega) (by have:=(O2.out.lt j hj).2;omega)).trans (A3.out.block j (O2.out.lt j hj).2)
     obtain ⟨rl,r0,r1,r2,rf⟩:=bS kR4
     have rf0:=rf 0
     have rf1:=rf 1
     have rf2:=rf 2
     obtain ⟨bl,b0,b1,b2,-⟩:=bS k24
     have p0:wr.cell? ⟨w.heap.size+1,0,none⟩=some (.slice none 0 0):=by simp [World.cell?,kA4]
     have pf0:wr.frozen? ⟨w.heap.size+1,0,none⟩=false:=by simp [World.frozen?,kA4]
     have pl:=ai kA4
     have q0:wr.cell? ⟨WA.heap.size,0,none⟩=some (.slice a5 q c5):=by simp [World.cell?,k4.out]
     have ql:=ai k4.out
     clear rf kA4 kR4 k24
     have OF:=ae (aS (aS (aS (aS O4.out (R:=w.heap.size+1) (j:=0) (by omega) (.slice a5 q c5)) (R:=w.heap.size+1+1) (j:=0) (by omega) (.int .i64 r.code)) (R:=w.heap.size+1+1) (j:=1) (by omega) (.string r.text)) (R:=w.heap.size+1+1) (j:=2) (by omega) (.slice a r.chain.length c))
     have DF:=ae ((((D4.out.set (p:=⟨w.heap.size+1,0,none⟩) (e:=59) (.inl (by show w.heap.size+1<W3.heap.size;omega)) (.slice a5 q c5)).set (p:=⟨w.heap.size+1+1,0,none⟩) (e:=59) (.inl (by show w.heap.size+1+1<W3.heap.size;omega)) (.int .i64 r.code)).set (p:=⟨w.heap.size+1+1,1,none⟩) (e:=59) (.inl (by show w.heap.size+1+1<W3.heap.size;omega)) (.string r.text)).set (p:=⟨w.heap.size+1+1,2,none⟩) (e:=59) (.inl (by show w.heap.size+1+1<W3.heap.size;omega)) (.slice a r.chain.length c))
     have BF:=ae (((((A0.out.trans (BW.out.mono (by omega))).setCell (p:=⟨w.heap.size+1,0,none⟩) (by show w.heap.size≤w.heap.size+1;omega) (.slice a5 q c5)).setCell (p:=⟨w.heap.size+1+1,0,none⟩) (by show w.heap.size≤w.heap.size+1+1;omega) (.int .i64 r.code)).setCell (p:=⟨w.heap.size+1+1,1,none⟩) (by show w.heap.size≤w.heap.size+1+1;omega) (.string r.text)).setCell (p:=⟨w.heap.size+1+1,2,none⟩) (by show w.heap.size≤w.heap.size+1+1;omega) (.slice a r.chain.length c))
     go_wp2_with fail
     go_region
     all_goals
      go_wp2
      refine bodyPost_ret (v:=.tuple #[.agg #[.slice a5 q c5],.agg #[.int .i64 r.code,.string r.text,.slice a r.chain.length c]]) (by simp [results,Tryz.results29,go_sem,p0,r0,r1,r2]) rfl ?_
      subst hRq
      refine ⟨a5,c5,R,_,rfl,?_,?_,⟨a,c,rfl,?_⟩,?_⟩
      ·exact (DF.out.mono (by omega)).below br.drew lr 
      ·rw [HRM.out,List.take_of_length_le (by rw [← HL.out];exact Nat.le_refl _)]
       rfl
      ·exact aT (own_below OF.out br.drew lr) (by omega)
      ·exact BF.out.drew
end
end Go.Proofs.YtkophfgkcijjkaaGreatDoor.Vp
