import Derived.Test.YtkophfgkcijjkaaGreatDoorXJ
import Derived.Test.YtkophfgkcijjkaaGreatDoorXF
import Derived.Deep.RegionHeld3
import Derived.Defers
import Derived.Recover
set_option maxRecDepth 100000
set_option maxHeartbeats 4000000
namespace Go.Proofs.YtkophfgkcijjkaaGreatDoor.Vp
open RowKit Ca Go.Maps
section
variable {w0:World}{S:Spc}{a0 a1:Option Addr}{c0 c1 mb mp:Nat}{mk md:Value}{making:List ByteArray}{made:List Ent}{G:ByteArray->Nat}{V:ByteArray->Value}
end
end Go.Proofs.YtkophfgkcijjkaaGreatDoor.Vp
namespace Go.Proofs.YtkophfgkcijjkaaGreatDoor.Vp
open RowKit Go.Maps
section
variable {w0:World}{S:Spc}{a0 a1:Option Addr}{c0 c1 mb mp:Nat}{mk md:Value}{making:List ByteArray}{made:List Ent}{G:ByteArray->Nat}{V:ByteArray->Value}
end
section
variable {w0:World}{S:Spc}{a0 a1:Option Addr}{c0 c1 mb mp:Nat}{mk md:Value}{making:List ByteArray}{made:List Ent}{G:ByteArray->Nat}{V:ByteArray->Value}
end
end Go.Proofs.YtkophfgkcijjkaaGreatDoor.Vp
namespace Go.Proofs.YtkophfgkcijjkaaGreatDoor.Vp
open RowKit Go.Maps Ca
def mB (w b:World)(r:iI)(v:Value):Prop:=∃ a c,v=.agg #[.int .i64 r.code,.string r.text,.slice a r.chain.length c]/\b.ownsRow w.heap.size 9 1 (.slice a r.chain.length c) r.chain.length (bR r.chain)
theorem od (w b:World)(c:Int)(t:ByteArray):mB w b ⟨c,t,[]⟩ (.agg #[.int .i64 c,.string t,.slice none 0 0]):=⟨none,0,rfl,⟨rfl,.inl ⟨rfl,rfl⟩⟩⟩
section
variable {S:Spc}{a0 a1:Option Addr}{c0 c1:Nat}
theorem xo (S:Spc):dC S [] []<=S.n1:=by have:=List.countP_le_length (p:=gE S [] []) (l:=List.range S.n1);rw[List.length_range] at this;exact this
end
end Go.Proofs.YtkophfgkcijjkaaGreatDoor.Vp
namespace Go.Proofs.YtkophfgkcijjkaaGreatDoor.Vp
open RowKit
section
variable {S:Spc}{a0 a1:Option Addr}{c0 c1:Nat}
end
end Go.Proofs.YtkophfgkcijjkaaGreatDoor.Vp
namespace Go.Proofs.YtkophfgkcijjkaaGreatDoor.Vp
open RowKit Ca
def zv (W:World)(B:Nat)(S:Spc)(x:Ent)(act:Value):Prop:=∃ a cap,act=.slice a (cO S x) cap/\((cO S x=0/\a=none/\cap=0)∨∃ b off,a=some ⟨b,off,none⟩/\b<B/\RowIns W b off (cO S x) (S.f1 x.tg).act)
structure Plc (B:Nat)(S:Spc)(W:World)(made:List Ent)(G:ByteArray->Nat)(V:ByteArray->Value)(k:Nat)(mdv:Value):Prop where
 row:W.ownsRow B 135 1 mdv made.length (yS G made)
 ent:∀ (i:Nat) (x:Ent),made[i]?=some x->B<=G x.name/\(∃ act,EntBlk W (G x.name) x.name x.kind x.code x.text act (V x.name) (if i<k then (i:Int) else 0)/\zv W B S x act)/\W.ownsRow B 214 5 (V x.name) x.looks.length (gF G x.looks)
 dist:made.Pairwise fun x y=>G x.name≠G y.name
theorem Plc.keep {B:Nat}{S:Spc}{W l:World}{made:List Ent}{G:ByteArray->Nat}{V:ByteArray->Value}{k:Nat}{g:Value}(h:Plc B S W made G V k g)(hz:W.heap.size<=l.heap.size)(f:∀ j,j<W.heap.size->l.heap[j]?=W.heap[j]?):Plc B S l made G V k g:=by refine⟨bB h.row fun j c=>f j (h.row.lt j c).2,fun i x o=>?_,h.dist⟩;obtain⟨n,⟨act,hb,a,cap,e,q⟩,m⟩:=h.ent i x o;refine⟨n,⟨act,(f _ (af hb)).trans hb,a,cap,e,q.imp id fun⟨b,off,p,hb,d⟩=>⟨b,off,p,hb,lj d.1 hz,fun j c=>?_⟩⟩,bB m fun j c=>f j (m.lt j c).2⟩;have e:=f b d.1;obtain⟨s,t,r⟩:=d.2 j c;exact⟨(cq (a:=⟨b,_,none⟩) e).trans s,(cq (a:=⟨b,_,none⟩) e).trans t,(cq (a:=⟨b,_,none⟩) e).trans r⟩
theorem Only.grown {b:Nat}{W w g:World}{row:Option Nat}(h:Only b W w)(c:w.grownBy g row)(m:∀ j,row=some j->W.heap.size<=j):Only b W g:=by
 have f:∀ k,k<W.heap.size->g.heap[k]?=w.heap[k]?:=fun k d=>c.block k (lj d h.size) fun e=>by have:=m k e.symm;omega
 exact⟨c.os.trans h.os,c.tape.trans h.tape,c.output.trans h.output,Nat.le_trans h.size c.size,fun k d l=>(f k d).trans (h.block k d l),fun i t fz hb=>let ⟨cs',h'⟩:=h.ty i t fz hb;⟨cs',(f b (au hb)).trans h'⟩⟩
theorem qu (w:World)(b f g i d c:Value)(t:TypeId):∀ j u,[b,f,g,i,d,c][j]?=some u->(w.alloc (.cells #[b,f,g,i,d,c] t)).cell? ((⟨w.heap.size,0,none⟩:Addr).add j)=some u:=by
 intro j u h;rw[addr_add];match j,h with
 | 0,h=>simp at h;subst h;simp
 | 1,h=>simp at h;subst h;simp
 | 2,h=>simp at h;subst h;simp
 | 3,h=>simp at h;subst h;simp
 | 4,h=>simp at h;subst h;simp
 | 5,h=>simp at h;subst h;simp
 | k+6,h=>simp at h
theorem Plc.settled {B:Nat}{S:Spc}{W:World}{made:List Ent}{G:ByteArray->Nat}{V:ByteArray->Value}{j:Value}(h:Plc B S W made G V made.length j)(g:PG S [] made)(z:∀ i,i<S.n1->bD (S.f1 i)){i:Nat}{x:Ent}(f:made[i]?=some x):Calls Tryz.prog 100 #[.pointer (some ⟨G x.name,0,none⟩)] W fun r o=>∃ k p,r=.returned (.agg #[.string x.name,.int .i64 x.kind,.int .i64 x.code,.string x.text,k,p])/\DSub o W.heap.size (dR S made x,k,p)/\Below W.heap.size W o:=by obtain⟨_,⟨act,hb,a,cap,rfl,u⟩,A⟩:=h.ent i x f;have m:=List.mem_of_getElem? f;have s:=uE g z (dR S made x) (List.mem_map_of_mem m);refine ru S made G x W (G x.name) B a cap (V x.name) _ hb (u.imp id fun⟨b,off,e,_,q⟩=>⟨b,off,e,q⟩) s.1 (g.ents x m).looks A fun l D C=>?_;obtain⟨y,t,hn,hlt⟩:=g.asked f D C;obtain⟨_,⟨acty,n,_⟩,_⟩:=h.ent _ y t;obtain⟨c,-,-,-,-,-,-,-,d,-⟩:=n.facts;rw[if_pos (List.getElem?_eq_some_iff.1 t).1] at d;rw[hn] at d c;exact⟨d,c⟩
section
variable {S:Spc}{a0 a1:Option Addr}{c0 c1:Nat}
end
def yy (w0:World)(hb:Nat)(s0 s1:Value)(b:World):Out Ent->Prop
 | .inl (made',x)=>∃ L md f st,ShBox b hb s0 s1 md f st (cY x).code (cY x).text (.slice none 0 0) false/\b.ownsRow w0.heap.size 236 6 md L.length (L.flatMap smV)/\b.ownsRow w0.heap.size 9 1 f made'.length (bR (made'.map (·.name)))/\(∀ m∈L,m.done=true->b.ownsRow w0.heap.size 239 3 m.sv m.seen.length (df m.seen))/\eB L [] made'
 | .inr (.inl c)=>∃ a k,iN w0 hb b (eP c) (.slice a c.length k)
 | .inr (.inr d)=>iN w0 hb b (eQ d) (.slice none 0 0)
section
variable {S:Spc}{a0 a1:Option Addr}{c0 c1:Nat}
theorem rz (w:World)(C:ju w S a0 a1)(nm:ByteArray)(hn:aw nm=true):Calls Tryz.prog 89 #[.agg #[.slice a0 S.n0 c0,.slice a1 S.n1 c1],.string nm] w fun e K=>∃ hb,e=.returned (.pointer (some ⟨hb,0,none⟩))/\yy w hb (.slice a0 S.n0 c0) (.slice a1 S.n1 c1) K (bv S 60 [] [] nm)/\Below w.heap.size w K:=by
 obtain⟨R,hR⟩:∃ R,R=bv S 60 [] [] nm:=⟨_,rfl⟩
 have HM:Hid (∀ (W:World) (hb:Nat),SI w hb (.slice a0 S.n0 c0) (.slice a1 S.n1 c1) W [] [] [] (.slice none 0 0) (.slice none 0 0) (.slice none 0 0)->Calls Tryz.prog 155 #[.pointer (some ⟨hb,0,none⟩),.string nm] W fun e K=>gX w hb (.slice a0 S.n0 c0) (.slice a1 S.n1 c1) [] [] W e K R):=by intro W hb O;rw[hR];refine xl C 60 [] [] [] _ _ _ W nm rfl O ⟨List.Pairwise.nil,rfl,fun x y=>absurd y nj,fun x y=>absurd y nj,fun x y=>absurd y nj⟩ (jZ S []) ?_ (fun x y=>absurd y nj) hn;have h1:=xo S;have X:=C.ok.small;unfold dZ;simp only[List.length_nil];omega
 rw[<-hR];have zA:(w.alloc (.cells #[.slice a0 S.n0 c0,.slice a1 S.n1 c1] 26)).heap.size=w.heap.size+1:=by simp
 have D:=ae (((q9 w).alloc ly (.cells #[.slice a0 S.n0 c0,.slice a1 S.n1 c1] 26)).alloc (by simp) (.cells #[.slice a0 S.n0 c0,.slice a1 S.n1 c1,.slice none 0 0,.slice none 0 0,.slice none 0 0,.int .i64 0,.string ⟨#[]⟩,.slice none 0 0,.bool false] 125));have V:Hid (SI w (w.heap.size+1) (.slice a0 S.n0 c0) (.slice a1 S.n1 c1) ((w.alloc (.cells #[.slice a0 S.n0 c0,.slice a1 S.n1 c1] 26)).alloc (.cells #[.slice a0 S.n0 c0,.slice a1 S.n1 c1,.slice none 0 0,.slice none 0 0,.slice none 0 0,.int .i64 0,.string ⟨#[]⟩,.slice none 0 0,.bool false] 125)) [] [] [] (.slice none 0 0) (.slice none 0 0) (.slice none 0 0)):=by refine⟨D.out,Nat.le_succ _,?_,⟨rfl,.inl ⟨rfl,rfl⟩⟩,⟨rfl,.inl ⟨rfl,rfl⟩⟩,⟨rfl,.inl ⟨rfl,rfl⟩⟩,(fun k h=>by cases h),fun m T=>absurd T nj⟩;have X:=heap_alloc_new (w.alloc (.cells #[.slice a0 S.n0 c0,.slice a1 S.n1 c1] 26)) (.cells #[.slice a0 S.n0 c0,.slice a1 S.n1 c1,.slice none 0 0,.slice none 0 0,.slice none 0 0,.int .i64 0,.string ⟨#[]⟩,.slice none 0 0,.bool false] 125);rw[zA] at X;exact X
 clear hn C hR zA;go_enter Tryz.func89,Tryz.ntmps89;go_wp2_with fail;generalize (w.alloc (.cells #[.slice a0 S.n0 c0,.slice a1 S.n1 c1] 26)).alloc (.cells #[.slice a0 S.n0 c0,.slice a1 S.n1 c1,.slice none 0 0,.slice none 0 0,.slice none 0 0,.int .i64 0,.string ⟨#[]⟩,.slice none 0 0,.bool false] 125)=W0 at D V ⊢;obtain⟨hb,Q⟩:∃ hb,hb=w.heap.size+1:=⟨_,rfl⟩
 rw[<-Q] at V ⊢;have I:w.heap.size<=hb:=by omega
 clear Q;refine(HM.out W0 hb V.out).mono ?_;clear HM;rintro e o l;rcases R with ⟨made',x⟩ | c | d
 ·obtain⟨L,md,or,st,rfl,O,hrel,-,f⟩:=l
  have r:=ae (D.out.trans f.below);have fd:=ae hrel;obtain⟨z,G⟩:∃ z,z=(cY x).code:=⟨_,rfl⟩
  obtain⟨B,J⟩:∃ B,B=(cY x).text:=⟨_,rfl⟩
  have bt:=ae G;have ex:=ae J;rw[<-G,<-J];have i:=ae ((q9 o).alloc ly (.cells #[.int .i64 z,.string B,.slice none 0 0] 41));have A:=ae (O.below i.out ly);clear f hrel O G J;obtain⟨P,-,-,-,-,-,b5,b6,b7,Z,M⟩:=A.out.box.facts;have bf5:=M 5;have bf6:=M 6;have bf7:=M 7;clear M;go_wp2_with fail;go_ret;have t:∀ {size n:Nat} {N:TypeId} {u:Value} {U:List Value},(o.alloc (.cells #[.int .i64 z,.string B,.slice none 0 0] 41)).ownsRow w.heap.size N size u n U->125≠N->((((o.alloc (.cells #[.int .i64 z,.string B,.slice none 0 0] 41)).setCell ⟨hb,5,none⟩ (.int .i64 z)).setCell ⟨hb,6,none⟩ (.string B)).setCell ⟨hb,7,none⟩ (.slice none 0 0)).ownsRow w.heap.size N size u n U:=fun Y ht=>by
   rename_i size n N u U;have E:u.ownBlock≠some hb:=fun e=>by obtain⟨_,_,cs2,aq⟩:=ah Y hb e;exact absurd (ai A.out.box aq) ht
   exact ay (ay (ay Y E _ _) E _ _) E _ _
  refine⟨hb,rfl,⟨L,md,or,st,?_,t A.out.rmd (by decide),t A.out.ror (by decide),fun m T hd=>t (A.out.seen m T hd) (by decide),fd.out⟩,?_⟩
  ·rw[<-bt.out,<-ex.out]
   exact av (av (av A.out.box (j:=5) _) (j:=6) _) (j:=7) _
  ·exact(((r.out.trans (i.out.mono r.out.size)).setCell (p:=⟨hb,5,none⟩) I _).setCell (p:=⟨hb,6,none⟩) I _).setCell (p:=⟨hb,7,none⟩) I _
 ·obtain⟨a,k,rfl,⟨s0,s1,la,mv,ld,g,b⟩,f⟩:=l
  have s:=ae g;have H:=ae b;have r:=ae (D.out.trans f.below);clear g b f;unfold fF eP;dsimp only;have i:=ae ((q9 o).alloc ly (.cells #[.int .i64 6,.string ⟨#[]⟩,.slice a c.length k] 41));have q:=ae (ShBox.blk s.out (i.out.block _ (af s.out)));obtain⟨P,-,-,-,-,-,-,-,-,Z,-⟩:=q.out.facts;go_wp2_with fail;go_ret;exact⟨hb,rfl,⟨a,k,_,_,_,_,_,q.out,own_below H.out i.out ly⟩,r.out.trans (i.out.mono r.out.size)⟩
 ·obtain⟨rfl,⟨s0,s1,la,mv,ld,g,b⟩,f⟩:=l
  have s:=ae g;have H:=ae b;have r:=ae (D.out.trans f.below);clear g b f;unfold fF eQ;dsimp only;have i:=ae ((q9 o).alloc ly (.cells #[.int .i64 7,.string d,.slice none 0 0] 41));have q:=ae (ShBox.blk s.out (i.out.block _ (af s.out)));obtain⟨P,-,-,-,-,-,-,-,-,Z,-⟩:=q.out.facts;go_wp2_with fail;go_ret;exact⟨hb,rfl,⟨_,_,_,_,_,q.out,own_below H.out i.out ly⟩,r.out.trans (i.out.mono r.out.size)⟩
end
theorem xp (w:World)(c:Int)(d:ByteArray):Calls Tryz.prog 88 #[.agg #[.int .i64 c,.string d,.slice none 0 0]] w fun e y=>∃ A,e=.returned A/\mB w y ⟨c,d,[]⟩ A/\Below w.heap.size w y:=by
 have o:=ae (((q9 w).alloc ly (.cells #[.int .i64 c,.string d,.slice none 0 0] 41)).alloc (by simp) (.cells #[.int .i64 0,.string ⟨#[]⟩,.slice none 0 0] 41));have t:Hid (((w.alloc (.cells #[.int .i64 c,.string d,.slice none 0 0] 41)).alloc (.cells #[.int .i64 0,.string ⟨#[]⟩,.slice none 0 0] 41)).heap[w.heap.size+1]?=some (.cells #[.int .i64 0,.string ⟨#[]⟩,.slice none 0 0] 41 (0,0))):=by have q:=heap_alloc_new (w.alloc (.cells #[.int .i64 c,.string d,.slice none 0 0] 41)) (.cells #[.int .i64 0,.string ⟨#[]⟩,.slice none 0 0] 41);rw[show(w.alloc (.cells #[.int .i64 c,.string d,.slice none 0 0] 41)).heap.size=w.heap.size+1 by simp] at q;exact q
 have G:Hid (((w.alloc (.cells #[.int .i64 c,.string d,.slice none 0 0] 41)).alloc (.cells #[.int .i64 0,.string ⟨#[]⟩,.slice none 0 0] 41)).heap[w.heap.size]?=some (.cells #[.int .i64 c,.string d,.slice none 0 0] 41 (0,0))):=by have q:=heap_alloc_new w (.cells #[.int .i64 c,.string d,.slice none 0 0] 41);exact(((Below.refl (w.heap.size+1) _).alloc (by simp) _).block w.heap.size (by omega)).trans q
 go_enter Tryz.func88,Tryz.ntmps88;go_upto_region 1 with fail;generalize (w.alloc (.cells #[.int .i64 c,.string d,.slice none 0 0] 41)).alloc (.cells #[.int .i64 0,.string ⟨#[]⟩,.slice none 0 0] 41)=b at o t G ⊢;obtain⟨-,z,E,D,-⟩:=aI G.out;have C:w.heap.size+1<b.heap.size:=af t.out;have r:Hid (∀ V:World,(∀ k,k<b.heap.size->V.heap[k]?=b.heap[k]?)->V.cell? ⟨w.heap.size,0,none⟩=some (.int .i64 c)/\V.cell? ⟨w.heap.size,1,none⟩=some (.string d)/\V.cell? ⟨w.heap.size,2,none⟩=some (.slice none 0 0)):=fun V u=>by have e:=cq (a:=⟨w.heap.size,0,none⟩) (u w.heap.size (by omega));have L:=cq (a:=⟨w.heap.size,1,none⟩) (u w.heap.size (by omega));have I:=cq (a:=⟨w.heap.size,2,none⟩) (u w.heap.size (by omega));exact⟨e.trans z,L.trans E,I.trans D⟩
 have j:=ae (r.out b.drew (fun k l=>rfl));refine aJ (fun V=>V.cell? ⟨w.heap.size,0,none⟩=some (.int .i64 c)/\V.cell? ⟨w.heap.size,1,none⟩=some (.string d)/\V.cell? ⟨w.heap.size,2,none⟩=some (.slice none 0 0)) 9 (by as_aux_lemma=>kernel_rfl) ?_;clear z E D
 iterate 4
  refine aM 0 (v:=?_) rfl rfl (by as_aux_lemma=>kernel_rfl) (fun _ _ _ h=>h) rfl ?_ j.out ?_;rotate_left
  ·(intro H g;obtain⟨s0,s1,x⟩:=g;go_simp)
   (try with_reducible rfl)
  (try simp only[Act.put,nzL])
 iterate 2
  refine aM 5 (v:=?_) rfl rfl (by as_aux_lemma=>kernel_rfl) (fun _ _ _ h=>h) rfl ?_ j.out ?_;rotate_left
  ·(intro H g;obtain⟨s0,s1,x⟩:=g;go_simp)
   (try with_reducible rfl)
  (try simp only[Act.put,nzL])
 refine aj (i:=4) rfl (by as_aux_lemma=>kernel_rfl) (fun K f=>?_);go_simp;have N:=ae (((q9 b).drew).alloc ly (.cells #[] 9));refine f.out _ _ (fun _=>r.out _ (fun k l=>N.out.block k l)) ?_;clear f K
 (try simp only[Act.put,nzL])
 refine aj (i:=7) rfl (by as_aux_lemma=>kernel_rfl) (fun K f=>?_);go_simp;have m:Hid (Below b.heap.size b (b.alloc (.cells #[] 9)).drew):=((q9 b).alloc ly _).drew;refine f.out _ _ (fun _=>r.out _ (fun k l=>m.out.block k l)) ?_;clear f K
 (try simp only[Act.put,nzL])
 have s:Hid ((b.alloc (.cells #[] 9)).drew.ownsRow b.heap.size 9 1 (.slice (some ⟨b.heap.size,0,none⟩) 0 0) 0 []):=own_below (iO b 9 1) br.drew ly;generalize (b.alloc (.cells #[] 9)).drew=J at m s ⊢;have B:=ae (r.out J (fun k l=>m.out.block k l));clear j;have j:=ae B.out;refine aM 8 (v:=?_) rfl rfl (by as_aux_lemma=>kernel_rfl) (fun _ _ _ h=>h) rfl ?_ j.out ?_;rotate_left
 ·(intro H g;obtain⟨s0,s1,x⟩:=g;go_simp)
  (try with_reducible rfl)
 (try simp only[Act.put,nzL])
 obtain⟨rl,r0,r1,M,n⟩:=aI ((m.out.block _ C).trans t.out);have rf0:=n 0;have rf1:=n 1;have rf2:=n 2;clear n;refine aj (i:=9) rfl (by as_aux_lemma=>kernel_rfl) (fun K f=>?_);go_simp;refine f.out _ _ (fun h=>absurd rfl h) ?_;clear f K j
 (try simp only[Act.put])
 refine aP (by as_aux_lemma=>kernel_rfl) ?_ _;go_wp2_with fail;refine bp (v:=.agg #[.int .i64 c,.string d,.slice (some ⟨b.heap.size,0,none⟩) 0 0]) (by simp[results,Tryz.results88,go_sem,r0,r1,M]) rfl ⟨_,rfl,⟨some ⟨b.heap.size,0,none⟩,0,rfl,?_⟩,?_⟩
 ·refine aB (ay (ay (ay s.out (fun e=>?_) _ _) (fun e=>?_) _ _) (fun e=>?_) _ _) o.out.size
  all_goals
   have:=(ah s.out _ e).1;omega
 ·exact(((o.out.trans (m.out.mono o.out.size)).setCell (p:=⟨w.heap.size+1,0,none⟩) (Nat.le_succ _) _).setCell (p:=⟨w.heap.size+1,1,none⟩) (Nat.le_succ _) _).setCell (p:=⟨w.heap.size+1,2,none⟩) (Nat.le_succ _) _
theorem vf (w:World)(d:Int)(f:ByteArray)(y:List ByteArray)(g n c B:Nat)(hn:n=y.length)(hlen:n<=1000)(M:w.ownsRow B 9 1 (.slice (some ⟨g,0,none⟩) n c) n (bR y)):Calls Tryz.prog 88 #[.agg #[.int .i64 d,.string f,.slice (some ⟨g,0,none⟩) n c]] w fun e R=>∃ X,e=.returned X/\mB w R ⟨d,f,y⟩ X/\Below w.heap.size w R:=by
 obtain⟨i1,S,N,aq,Y⟩:=ey fQ;have HO:=ae M;have I:=ae hn;clear M hn;have A:=ae (((q9 w).alloc ly (.cells #[.int .i64 d,.string f,.slice (some ⟨g,0,none⟩) n c] 41)).alloc (by simp) (.cells #[.int .i64 0,.string ⟨#[]⟩,.slice none 0 0] 41));have L:Hid (((w.alloc (.cells #[.int .i64 d,.string f,.slice (some ⟨g,0,none⟩) n c] 41)).alloc (.cells #[.int .i64 0,.string ⟨#[]⟩,.slice none 0 0] 41)).heap[w.heap.size+1]?=some (.cells #[.int .i64 0,.string ⟨#[]⟩,.slice none 0 0] 41 (0,0))):=by have G:=heap_alloc_new (w.alloc (.cells #[.int .i64 d,.string f,.slice (some ⟨g,0,none⟩) n c] 41)) (.cells #[.int .i64 0,.string ⟨#[]⟩,.slice none 0 0] 41);rw[show(w.alloc (.cells #[.int .i64 d,.string f,.slice (some ⟨g,0,none⟩) n c] 41)).heap.size=w.heap.size+1 by simp] at G;exact G
 have kP:Hid (((w.alloc (.cells #[.int .i64 d,.string f,.slice (some ⟨g,0,none⟩) n c] 41)).alloc (.cells #[.int .i64 0,.string ⟨#[]⟩,.slice none 0 0] 41)).heap[w.heap.size]?=some (.cells #[.int .i64 d,.string f,.slice (some ⟨g,0,none⟩) n c] 41 (0,0))):=by have G:=heap_alloc_new w (.cells #[.int .i64 d,.string f,.slice (some ⟨g,0,none⟩) n c] 41);exact(((Below.refl (w.heap.size+1) _).alloc (by simp) _).block w.heap.size (by omega)).trans G
 go_enter Tryz.func88,Tryz.ntmps88;go_upto_region 1 with fail;generalize (w.alloc (.cells #[.int .i64 d,.string f,.slice (some ⟨g,0,none⟩) n c] 41)).alloc (.cells #[.int .i64 0,.string ⟨#[]⟩,.slice none 0 0] 41)=b at A L kP ⊢;obtain⟨-,T,O,p2,-⟩:=aI kP.out;have ex:w.heap.size+1<b.heap.size:=af L.out;have E:Hid (∀ V:World,(∀ k,k<b.heap.size->V.heap[k]?=b.heap[k]?)->V.cell? ⟨w.heap.size,0,none⟩=some (.int .i64 d)/\V.cell? ⟨w.heap.size,1,none⟩=some (.string f)/\V.cell? ⟨w.heap.size,2,none⟩=some (.slice (some ⟨g,0,none⟩) n c)):=fun V J=>by have e:=cq (a:=⟨w.heap.size,0,none⟩) (J w.heap.size (by omega));have e1:=cq (a:=⟨w.heap.size,1,none⟩) (J w.heap.size (by omega));have e2:=cq (a:=⟨w.heap.size,2,none⟩) (J w.heap.size (by omega));exact⟨e.trans T,e1.trans O,e2.trans p2⟩
 have x:=ae (E.out b.drew (fun k z=>rfl));refine aJ (fun V=>V.cell? ⟨w.heap.size,0,none⟩=some (.int .i64 d)/\V.cell? ⟨w.heap.size,1,none⟩=some (.string f)/\V.cell? ⟨w.heap.size,2,none⟩=some (.slice (some ⟨g,0,none⟩) n c)) 9 (by as_aux_lemma=>kernel_rfl) ?_;clear T O p2
 iterate 4
  refine aM 0 (v:=?_) rfl rfl (by as_aux_lemma=>kernel_rfl) (fun _ _ _ h=>h) rfl ?_ x.out ?_;rotate_left
  ·(intro wz r;obtain⟨s0,s1,P⟩:=r;go_simp)
   (try with_reducible rfl)
  (try simp only[Act.put,nzL])
 iterate 2
  refine aM 5 (v:=?_) rfl rfl (by as_aux_lemma=>kernel_rfl) (fun _ _ _ h=>h) rfl ?_ x.out ?_;rotate_left
  ·(intro wz r;obtain⟨s0,s1,P⟩:=r;go_simp)
   (try with_reducible rfl)
  (try simp only[Act.put,nzL])
 refine aj (i:=4) rfl (by as_aux_lemma=>kernel_rfl) (fun K o=>?_);go_simp;have AB:=ae (((q9 b).drew).alloc ly (.cells #[] 9));refine o.out _ _ (fun _=>E.out _ (fun k z=>AB.out.block k z)) ?_;clear o K
 (try simp only[Act.put,nzL])
 have m:Hid (Below b.heap.size b (b.alloc (.cells #[] 9)).drew):=((q9 b).alloc ly _).drew;have C:Hid ((b.alloc (.cells #[] 9)).drew.ownsRow b.heap.size 9 1 (.slice (some ⟨b.heap.size,0,none⟩) 0 0) 0 []):=own_below (iO b 9 1) br.drew ly;have Z:Hid ((b.alloc (.cells #[] 9)).drew.ownsRow B 9 1 (.slice (some ⟨g,0,none⟩) n c) n (bR y)):=own_below (own_below HO.out A.out ly) m.out ly;refine aj (i:=7) rfl (by as_aux_lemma=>kernel_rfl) (fun K o=>?_);refine bq (w:=(b.alloc (.cells #[] 9)).drew) rfl (.tmp 7) (.tmp 9) 39 rfl b.heap.size 9 i1 (.string ⟨#[]⟩) 1 16 Tryz.underlying39 S N aq Y rfl (by decide) (.slice (some ⟨b.heap.size,0,none⟩) 0 0) 0 [] (by simp[Act.eval]) C.out ⟨g,0,none⟩ n c (bR y) (by simp[Act.eval]) (by rw[bR,List.length_map,<-I.out,Nat.mul_one]) (fun q u h=>Z.out.cells (g:=g) rfl q u h) (fun u hu=>by rw[bR,List.mem_map] at hu;obtain⟨t,_,rfl⟩:=hu;rfl) (by unfold maxLen;omega) (by omega) m.out.size ?_;intro v1 W l s U;have H:Hid (Below b.heap.size b W):=m.out.trans (bg (Below.refl b.heap.size _) s m.out.size (fun j e=>(C.out.lt j e).1));rw[Nat.zero_add,List.nil_append] at l;have Q:=ae l;obtain⟨a1,c1,rfl⟩:=dQ l;clear l s U m C Z AB;refine o.out _ _ (fun _=>E.out _ (fun k z=>H.out.block k z)) ?_;clear o K
 (try simp only[Act.put,nzL])
 have bt:=ae (E.out W (fun k z=>H.out.block k z));clear x;have x:=ae bt.out;refine aM 8 (v:=?_) rfl rfl (by as_aux_lemma=>kernel_rfl) (fun _ _ _ h=>h) rfl ?_ x.out ?_;rotate_left
 ·(intro wz r;obtain⟨s0,s1,P⟩:=r;go_simp)
  (try with_reducible rfl)
 (try simp only[Act.put,nzL])
 obtain⟨rl,r0,r1,r2,D⟩:=aI ((H.out.block _ ex).trans L.out);have rf0:=D 0;have rf1:=D 1;have rf2:=D 2;clear D;refine aj (i:=9) rfl (by as_aux_lemma=>kernel_rfl) (fun K o=>?_);go_simp;refine o.out _ _ (fun h=>absurd rfl h) ?_;clear o K x
 (try simp only[Act.put])
 refine aP (by as_aux_lemma=>kernel_rfl) ?_ _;go_wp2_with fail;refine bp (v:=.agg #[.int .i64 d,.string f,.slice a1 n c1]) (by simp[results,Tryz.results88,go_sem,r0,r1,r2]) rfl ⟨_,rfl,⟨a1,c1,by rw[<-I.out],?_⟩,?_⟩
 ·show World.ownsRow _ _ _ _ _ y.length _
  rw[<-I.out];refine aB (ay (ay (ay Q.out (fun e=>?_) _ _) (fun e=>?_) _ _) (fun e=>?_) _ _) A.out.size;all_goals
   have:=(ah Q.out _ e).1;omega
 ·exact(((A.out.trans (H.out.mono A.out.size)).setCell (p:=⟨w.heap.size+1,0,none⟩) (Nat.le_succ _) _).setCell (p:=⟨w.heap.size+1,1,none⟩) (Nat.le_succ _) _).setCell (p:=⟨w.heap.size+1,2,none⟩) (Nat.le_succ _) _
theorem jB (w:World)(r:iI)(a:Option Addr)(c B:Nat)(f:w.ownsRow B 9 1 (.slice a r.chain.length c) r.chain.length (bR r.chain))(b:r.chain.length<=1000):Calls Tryz.prog 88 #[.agg #[.int .i64 r.code,.string r.text,.slice a r.chain.length c]] w fun e n=>∃ k,e=.returned k/\mB w n r k/\Below w.heap.size w n:=by
 obtain⟨m,j,d⟩:=r;simp only at f b ⊢;obtain⟨h0,⟨h,hn⟩ | ⟨g,cap,cur,h,h2⟩⟩:=id f
 ·have l:d=[]:=List.length_eq_zero_iff.1 hn
  subst l;cases h
  exact xp w m j
 ·have i:=h
  simp only[Value.slice.injEq] at i;obtain⟨rfl,-,rfl⟩:=i;exact vf w m j d g d.length c B rfl b f
theorem tO {S:Spc}{b:List Ent->ByteArray->Out Ent}{t K:Nat}(j:∀ made nm c,b made nm=.inr (.inl c)->c.length<=K):∀ k made f d c,dw S b t k made f d=.inr (.inl c)->c.length<=K:=by
 intro k;induction k with
 | zero=>intro made f d c h;cases h
 | succ k g =>
  intro made f d c h;rw[dw] at h;split at h
  ·cases h
  ·split at h
   ·exact g _ _ _ _ h
   ·split at h
    ·exact g _ _ _ _ h
    ·rename_i c' i
     cases h
     exact j _ _ _ i
    ·cases h
theorem rA (S:Spc):∀ n making made nm c,bv S n making made nm=.inr (.inl c)->c.length<=making.length+n:=by
 intro n;have b:∀ making made nm c (K:Nat) (tgt:Nat->Out Ent),making.length<=K->(∀ t c,tgt t=.inr (.inl c)->c.length<=K)->eN S tgt making made nm=.inr (.inl c)->c.length<=K:=by
  intro making made nm c K tgt hK g h;unfold eN at h;split at h
  ·cases h
  ·split at h
   ·cases h
    rw[List.length_drop];omega
   ·unfold fD gv at h
    split at h
    ·cases h
    ·split at h
     ·exact g _ _ h
     ·cases h
 induction n with
 | zero =>intro making made nm c h;rw[bv] at h;exact b _ _ _ _ _ _ (by omega) (fun t c h=>by cases h) h
 | succ n i =>
  intro making made nm c h;rw[bv] at h;refine b _ _ _ _ _ _ (by omega) (fun t c h=>?_) h;rcases hr:dw S (bv S n (making++[nm])) t 201 made [] [] with ⟨made1,x⟩ | c1 | d
  ·rw[hr] at h;cases h
  ·rw[hr] at h
   cases h
   refine tO (fun made nm2 c2 f=>?_) _ _ _ _ _ hr;have:=i _ _ _ _ f;rw[List.length_append,List.length_singleton] at this;omega
  ·rw[hr] at h;cases h
section
variable {S:Spc}{a0 a1:Option Addr}{c0 c1:Nat}
end
section
variable {S:Spc}{a0 a1:Option Addr}{c0 c1:Nat}
end
end Go.Proofs.YtkophfgkcijjkaaGreatDoor.Vp
