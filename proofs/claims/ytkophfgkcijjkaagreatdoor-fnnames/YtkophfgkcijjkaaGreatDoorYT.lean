import Derived.Test.YtkophfgkcijjkaaGreatDoorYQ
import Derived.Deep.DeepCutAuto
import Derived.Deep.CutBlock
set_option maxRecDepth 1000000
set_option maxHeartbeats 8000000
namespace Go.Proofs.YtkophfgkcijjkaaGreatDoor.Vp
open RowKit
theorem tC (pb po cnt ld place steps looks:Nat)(f:Nat->Ins)(a:Option Addr)(s:List ByteArray)(cap b2 o2 n zS zE:Nat)(y:Nat->aC)(w:World)
  (hP:RowIns w pb po cnt f) (hY:RowReply w b2 o2 n y) (hO:w.ownsRow zE 9 1 (.slice a s.length cap) s.length (strs s)) (hp:place<=2000) (hst:steps<=2000) (hlk:looks<=200) (hs:s.length<=50) (zY:∀ x∈s,x.size<=2000) (Ac:dK f cnt=true) :
  Calls Tryz.prog 237 #[.agg #[.slice (some ⟨pb,po,none⟩) cnt ld],cI place (.slice a s.length cap) steps looks false 0 ⟨#[]⟩ false ⟨#[]⟩ false,.slice (some ⟨b2,o2,none⟩) n zS] w fun e w'=>∃ v,e=.returned v/\SoIs w' w.heap.size v (eZ f cnt y n place steps looks s)/\Below w.heap.size w w':=by
 obtain⟨so,ex⟩:∃ so,so=eZ f cnt y n place steps looks s:=⟨_,rfl⟩
 rw[<-ex];have S0:=ae ex;clear ex;have HP:=ae hP;have HY:=ae hY;have HO:=ae hO;have HK:=ae Ac;have HL:=ae zY;clear hP hY hO Ac zY;have A0:=ae ((((q9 w).alloc ly (.cells #[.slice (some ⟨pb,po,none⟩) cnt ld] 31)).alloc (by simp) (.cells #[.int .i64 place,.slice a s.length cap,.int .i64 steps,.int .i64 looks,.bool false,.int .i64 0,.string ⟨#[]⟩,.bool false,.string ⟨#[]⟩,.bool false] 297)).alloc (by simp<;>omega) (.cells #[.int .i64 0,.slice none 0 0,.int .i64 0,.int .i64 0,.bool false,.int .i64 0,.string ⟨#[]⟩,.bool false,.string ⟨#[]⟩,.bool false] 297));have R0:=ae ((cQ (w.alloc (.cells #[.slice (some ⟨pb,po,none⟩) cnt ld] 31)) (.int .i64 place) (.slice a s.length cap) (.int .i64 steps) (.int .i64 looks) (.bool false) (.int .i64 0) (.string ⟨#[]⟩) (.bool false) (.string ⟨#[]⟩) (.bool false) 297 (w.heap.size+1) (by simp)).al (.cells #[.int .i64 0,.slice none 0 0,.int .i64 0,.int .i64 0,.bool false,.int .i64 0,.string ⟨#[]⟩,.bool false,.string ⟨#[]⟩,.bool false] 297));have Z0:=ae (cQ ((w.alloc (.cells #[.slice (some ⟨pb,po,none⟩) cnt ld] 31)).alloc (.cells #[.int .i64 place,.slice a s.length cap,.int .i64 steps,.int .i64 looks,.bool false,.int .i64 0,.string ⟨#[]⟩,.bool false,.string ⟨#[]⟩,.bool false] 297)) (.int .i64 0) (.slice none 0 0) (.int .i64 0) (.int .i64 0) (.bool false) (.int .i64 0) (.string ⟨#[]⟩) (.bool false) (.string ⟨#[]⟩) (.bool false) 297 (w.heap.size+1+1) (by simp));go_enter Tryz.func237,Tryz.ntmps237;go_wp2_with fail;refine(nA place (by omega) _).mono ?_;rintro e d ⟨rfl,bt⟩;have hD:(⟨(Lib.decDigits place).toArray⟩:ByteArray)=dY place:=rfl;rw[hD];have R1:=ae (R0.out.below bt (by simp<;>omega));have Z1:=ae (Z0.out.below bt (by simp<;>omega));have B1:=ae (A0.out.trans (bt.mono (by simp<;>omega)));have pP:d.cell? ⟨w.heap.size,0,none⟩=some (.slice (some ⟨pb,po,none⟩) cnt ld):=(bt.cell (p:=⟨w.heap.size,0,none⟩) (by simp<;>omega)).trans (jV _ _ _ _ _ _ _ rfl);have O1:=ae (own_below HO.out B1.out ly);have hz1:w.heap.size+1+1<d.heap.size:=Z1.out.1;have hz0:w.heap.size<d.heap.size:=by omega
 have hz01:w.heap.size+1<d.heap.size:=by omega
 clear bt A0 R0 Z0 hD;obtain⟨l,⟨c0,f0⟩,⟨c1,f1⟩,⟨c2,S⟩,⟨c3,f3⟩,⟨c4,P⟩,⟨c5,Q⟩,⟨R,Y⟩,⟨T,f7⟩,⟨M,V⟩,Z,O⟩:=R1.out;rcases Int.lt_or_le (place:Int) cnt with h1 | h1;rotate_left
 ·have S1:Hid (so=.inr (.inl (2,(dY place),steps))):=S0.out.trans (show eZ f cnt y n place steps looks s=.inr (.inl (2,(dY place),steps)) by have h:cnt<=place:=(by omega);simp[eZ,fO,de,ej,h])
  go_wp2_with fail;refine(dE _ _ _ _ _ _ _ _ _ _ _ _ _ _ _).mono ?_;rintro e w5 ⟨rfl,b⟩;have X:=ae (Z1.out.below b Z1.out.1);have C:=ae (B1.out.trans (b.mono B1.out.size));clear b;clear l c0 f0 c1 f1 c2 S c3 f3 c4 P c5 Q R Y T f7 M V Z O;obtain⟨la,⟨z0,y0⟩,⟨z1,y1⟩,⟨z2,y2⟩,⟨z3,y3⟩,⟨L,y4⟩,⟨H,y5⟩,⟨D,y6⟩,⟨N,y7⟩,⟨K,y8⟩,J,y9⟩:=X.out;go_wp2;refine bp (v:=cI place (.slice a s.length cap) steps looks true 2 (dY place) false ⟨#[]⟩ false) (by simp[results,Tryz.results237,go_sem,z0,z1,z2,z3,L,H,D,N,K,J]) rfl ⟨_,rfl,(by rw[S1.out];exact⟨_,_,_,_,_,rfl⟩),dr C.out (by omega) _ _ _ _ _ _ _ _ _ _⟩
 rcases Bool.eq_false_or_eq_true ((steps:Int) == 2000) with h2 | h2
 ·have S1:Hid (so=.inr (.inl (3,⟨#[]⟩,steps))):=S0.out.trans (show eZ f cnt y n place steps looks s=.inr (.inl (3,⟨#[]⟩,steps)) by have h:¬ cnt<=place:=(by omega);have e:steps=2000:=(by simp at h2;omega);simp[eZ,fO,de,ej,h,e])
  go_wp2_with fail;refine(dE _ _ _ _ _ _ _ _ _ _ _ _ _ _ _).mono ?_;rintro e w5 ⟨rfl,b⟩;have X:=ae (Z1.out.below b Z1.out.1);have C:=ae (B1.out.trans (b.mono B1.out.size));clear b;clear l c0 f0 c1 f1 c2 S c3 f3 c4 P c5 Q R Y T f7 M V Z O;obtain⟨la,⟨z0,y0⟩,⟨z1,y1⟩,⟨z2,y2⟩,⟨z3,y3⟩,⟨L,y4⟩,⟨H,y5⟩,⟨D,y6⟩,⟨N,y7⟩,⟨K,y8⟩,J,y9⟩:=X.out;go_wp2;refine bp (v:=cI place (.slice a s.length cap) steps looks true 3 ⟨#[]⟩ false ⟨#[]⟩ false) (by simp[results,Tryz.results237,go_sem,z0,z1,z2,z3,L,H,D,N,K,J]) rfl ⟨_,rfl,(by rw[S1.out];exact⟨_,_,_,_,_,rfl⟩),dr C.out (by omega) _ _ _ _ _ _ _ _ _ _⟩
 have hi:=j8 HK.out (show place<cnt by omega);simp only[cC,decide_eq_true_eq] at hi;obtain⟨op,zM⟩:=Int.eq_ofNat_of_zero_le (show 0<=(f place).op by omega);obtain⟨k,hk⟩:=Int.eq_ofNat_of_zero_le hi.2.2.2.1;have AF:ec (f place).op<=2000:=by unfold ec;split<;>(try split)<;>omega
 have Ak:bF (f place).op<=2000:=by unfold bF;split<;>omega
 have Ax:k<=2000:=by omega
 have Al:(f place).s.size<=2000:=by omega
 have zD:1<=op:=by omega
 have zV:op<=15:=by omega
 have EP:Hid (so=if gU op s=false then .inr (.inl (2,(dY place),(steps+1))) else fO y n place (steps+1) looks (dq op k (f place).s place looks s)):=by
  show _=_;rw[S0.out];have q1:¬ cnt<=place:=by omega
  have q2:¬ steps=2000:=by simp at h2;omega
  simp only[eZ,de,ej,q1,q2,if_false,zM,hk,Int.toNat_natCast];split<;>rfl
 clear hi AF Ak HK;obtain⟨d0,d1,d2⟩:=(HP.out.below B1.out ly).2 place (by omega);rw[zM] at d0;rw[hk] at d2;have hpb:pb<w.heap.size:=HP.out.1;have Ay:=(cell_far d ⟨w.heap.size+1,2,none⟩ ⟨pb,po+place*3,none⟩ (.int .i64 ((steps:Int)+1)) (by simp;omega)).trans d0;have Aq:=(cell_far d ⟨w.heap.size+1,2,none⟩ ⟨pb,po+place*3+1,none⟩ (.int .i64 ((steps:Int)+1)) (by simp;omega)).trans d1;have Au:=(cell_far d ⟨w.heap.size+1,2,none⟩ ⟨pb,po+place*3+2,none⟩ (.int .i64 ((steps:Int)+1)) (by simp;omega)).trans d2;have Ag:∀ j,w.heap.size<=j->Value.ownBlock (.slice a s.length cap)≠some j:=fun j hj e=>by have:=(HO.out.lt j e).2;omega
 have R2:=ae ((R1.out.set2 (.int .i64 ((steps:Int)+1))).al (.cells #[.int .i64 op,.string (f place).s,.int .i64 k] 176));have Z2:=ae ((Z1.out.other ⟨w.heap.size+1,2,none⟩ (.int .i64 ((steps:Int)+1)) (by simp)).al (.cells #[.int .i64 op,.string (f place).s,.int .i64 k] 176));have O2:=ae ((ownsRow_setCell_other O1.out (a:=⟨w.heap.size+1,2,none⟩) (Ag _ (by simp)) (.int .i64 ((steps:Int)+1))).alloc (.cells #[.int .i64 op,.string (f place).s,.int .i64 k] 176));have B2:=ae ((B1.out.setCell (p:=⟨w.heap.size+1,2,none⟩) (by simp) (.int .i64 ((steps:Int)+1))).alloc (by have:=B1.out.size;simpa using this) (.cells #[.int .i64 op,.string (f place).s,.int .i64 k] 176));have g0:((d.setCell ⟨w.heap.size+1,2,none⟩ (.int .i64 ((steps:Int)+1))).alloc (.cells #[.int .i64 op,.string (f place).s,.int .i64 k] 176)).cell? ⟨d.heap.size,0,none⟩=some (.int .i64 op):=iU _ _ _ _ _ _ (by simp) rfl;have g1:((d.setCell ⟨w.heap.size+1,2,none⟩ (.int .i64 ((steps:Int)+1))).alloc (.cells #[.int .i64 op,.string (f place).s,.int .i64 k] 176)).cell? ⟨d.heap.size,1,none⟩=some (.string (f place).s):=iU _ _ _ _ _ _ (by simp) rfl;have g2:((d.setCell ⟨w.heap.size+1,2,none⟩ (.int .i64 ((steps:Int)+1))).alloc (.cells #[.int .i64 op,.string (f place).s,.int .i64 k] 176)).cell? ⟨d.heap.size,2,none⟩=some (.int .i64 k):=iU _ _ _ _ _ _ (by simp) rfl;have fd:d.heap.size<((d.setCell ⟨w.heap.size+1,2,none⟩ (.int .i64 ((steps:Int)+1))).alloc (.cells #[.int .i64 op,.string (f place).s,.int .i64 k] 176)).heap.size:=by simp
 clear Ag;go_wp2_with fail;refine(qW op _ zD zV).mono ?_;rintro e w9 ⟨rfl,Ap⟩;subst Ap;clear l c0 f0 c1 f1 c2 S c3 f3 c4 P c5 Q R Y T f7 M V Z O;clear d0 d1 d2 Ay Aq Au zM hk pP;generalize ((d.setCell ⟨w.heap.size+1,2,none⟩ (.int .i64 ((steps:Int)+1))).alloc (.cells #[.int .i64 op,.string (f place).s,.int .i64 k] 176))=W at R2 Z2 O2 B2 g0 g1 g2 fd ⊢;obtain⟨l,⟨c0,f0⟩,⟨c1,f1⟩,⟨c2,S⟩,⟨c3,f3⟩,⟨c4,P⟩,⟨c5,Q⟩,⟨R,Y⟩,⟨T,f7⟩,⟨M,V⟩,Z,O⟩:=R2.out;have hpt:=wG op;have At:aX op<=2:=by unfold aX;split<;>(try split)<;>omega
 by_cases hb:gU op s=false
 ·have S1:Hid (so=.inr (.inl (2,(dY place),(steps+1)))):=by rw[EP.out,if_pos hb];rfl
  have hA:(s.length:Int)<(aX op:Nat)∨¬ (s.length:Int)<(aX op:Nat)/\(50:Int)<(s.length:Int) - (aX op:Nat)+(bT op:Nat):=by simp only[gU,decide_eq_false_iff_not] at hb;omega
  clear hb EP;rcases hA with hA | ⟨hA,zX⟩
  iterate 2
   ·go_wp2_with fail
    refine(dE _ _ _ _ _ _ _ _ _ _ _ _ _ _ _).mono ?_;rintro e w5 ⟨rfl,b⟩;have X:=ae (Z2.out.below b Z2.out.1);have C:=ae (B2.out.trans (b.mono B2.out.size));clear b;clear l c0 f0 c1 f1 c2 S c3 f3 c4 P c5 Q R Y T f7 M V Z O;obtain⟨la,⟨z0,y0⟩,⟨z1,y1⟩,⟨z2,y2⟩,⟨z3,y3⟩,⟨L,y4⟩,⟨H,y5⟩,⟨D,y6⟩,⟨N,y7⟩,⟨K,y8⟩,J,y9⟩:=X.out;go_wp2;refine bp (v:=cI place (.slice a s.length cap) ((steps:Int)+1) looks true 2 (dY place) false ⟨#[]⟩ false) (by simp[results,Tryz.results237,go_sem,z0,z1,z2,z3,L,H,D,N,K,J]) rfl ⟨_,rfl,(by rw[S1.out];exact⟨_,_,_,_,_,rfl⟩),dr C.out (by omega) _ _ _ _ _ _ _ _ _ _⟩
 have Ad:aX op<=s.length/\s.length - aX op+bT op<=50:=by simpa[gU] using hb
 have hA:¬ (s.length:Int)<(aX op:Nat):=by omega
 have zX:¬ (50:Int)<(s.length:Int) - (aX op:Nat)+(bT op:Nat):=by omega
 have SO:Hid (so=fO y n place (steps+1) looks (dq op k (f place).s place looks s)):=by rw[EP.out,if_neg hb];rfl
 have HB:=ae Ad.1;have Av:(s.drop (aX op)).length+bT op<=50:=by rw[List.length_drop];omega
 clear hb Ad EP;obtain⟨A,Ai⟩:∃ A,A=jk op s:=⟨_,rfl⟩
 obtain⟨B,bt⟩:∃ B,B=mP op s:=⟨_,rfl⟩
 obtain⟨r,n9⟩:∃ r,r=s.drop (aX op):=⟨_,rfl⟩
 rw[<-n9] at Av;have EA:=ae Ai;have EB:=ae bt;have ER:=ae n9;clear S0 Ai bt n9;go_upto_if 68 with fail;go_cut [11] (fun sa G=>sa=.string A/\W=G);case first =>
  by_cases ht:(0:Int)<(aX op:Nat)
  ·rcases s with _ | ⟨x,q⟩
   ·exact absurd HB.out (by simp;omega)
   ·obtain⟨g,c,e⟩:=fJ O2.out (by simp)
    obtain⟨rfl,-⟩:=Value.slice.inj e;have t1:=xW O2.out;have As:q.length<=50:=by simp at hs;omega
    obtain rfl:A=x:=by rw[EA.out];unfold jk;rw[if_pos (by omega)];rfl
    rw[List.length_cons] at c1;go_wp2;go_meet;exact⟨rfl,rfl⟩
  ·obtain rfl:A=⟨#[]⟩:=by rw[EA.out];unfold jk;rw[if_neg (by omega)]
   go_wp2;go_meet;exact⟨rfl,rfl⟩
 case rest =>
 obtain⟨rfl,rfl⟩:=hcut;go_upto_if 78 with fail;go_cut [12] (fun sa G=>sa=.string B/\W=G);case first =>
  by_cases ht:(1:Int)<(aX op:Nat)
  ·rcases s with _ | ⟨x,_ | ⟨z,q⟩⟩
   ·exact absurd HB.out (by simp;omega)
   ·exact absurd HB.out (by simp;omega)
   ·obtain⟨g,c,e⟩:=fJ O2.out (by simp)
    obtain⟨rfl,-⟩:=Value.slice.inj e;obtain⟨t1,t2⟩:=xX O2.out;have As:q.length+1<=50:=by simp at hs;omega
    obtain rfl:B=z:=by rw[EB.out];unfold mP;rw[if_pos (by omega)];rfl
    rw[List.length_cons,List.length_cons] at c1;go_wp2;go_meet;exact⟨rfl,rfl⟩
  ·obtain rfl:B=⟨#[]⟩:=by rw[EB.out];unfold mP;rw[if_neg (by omega)]
   go_wp2;go_meet;exact⟨rfl,rfl⟩
 case rest =>
 obtain⟨rfl,rfl⟩:=hcut;have hl:s.length=r.length+aX op:=by rw[ER.out,List.length_drop];have:=HB.out;omega
 go_upto_region 17 with fail;go_cut [13] (fun sr G=>∃ U cr,sr=.slice (some ⟨U,0,none⟩) r.length cr/\W.heap.size<=U/\Hid (G.ownsRow W.heap.size 9 1 (.slice (some ⟨U,0,none⟩) r.length cr) r.length (strs r))/\Hid (Below W.heap.size W G));case first =>
  rcases uy O2.out with ⟨rfl,hz,rfl⟩ | ⟨g,rfl⟩
  ·obtain rfl:s=[]:=List.length_eq_zero_iff.1 hz
   obtain rfl:r=[]:=by rw[ER.out];simp
   have Ab:aX op=0:=by simpa using HB.out
   have h0:((aX op:Nat):Int)=0:=by rw[Ab];rfl
   have hw3:-((aX op:Nat):Int)=0:=by rw[h0];decide
   have hw4:0 - ((aX op:Nat):Int)=0:=by rw[h0];decide
   clear h0 Ab hl;have AL:=ae ((q9 W).alloc ly (.cells #[] 9));have OM:=ae (World.ownsRow_made (base:=W.heap.size) (e:=9) (size:=1) W #[] 0 ly (by unfold maxLen;omega) rfl);go_wp2;go_meet;exact⟨_,_,rfl,Nat.le_refl _,OM.out,AL.out⟩
  ·have hcap:(r.length:Int)<=cap:=by have:=xY O2.out;omega
   have Aj:Hid (∀ j u,(strs r)[j]?=some u->(W.alloc (.cells #[] 9)).cell? ((⟨g,0,none⟩:Addr).add j)=some u):=xZ (xs:=strs (s.take (aX op))) (by
    have h:=O2.out.alloc (.cells #[] 9);rw[ER.out,<-wJ,List.take_append_drop]
    exact h)
   obtain⟨t,ht⟩:∃ t,t=aX op:=⟨_,rfl⟩
   rw[<-ht] at hl At ⊢;rw[hl] at c1 hs;have HS:=ae hs;have HL:=ae hl;clear hs hl;obtain⟨zL,hi,zN,zT,zQ⟩:=info_parts gB;go_wp2_with (at_builtin;refine wpList_append_own _ rfl (.tmp 87) (.tmp 95) 39 rfl W.heap.size 9 zL (.string ⟨#[]⟩) 1 16 Tryz.underlying39 hi zN zT zQ rfl (by decide) (.slice (some ⟨W.heap.size,0,none⟩) 0 0) 0 [] (by simp[Act.eval]) (World.ownsRow_made W #[] 0 ly (by unfold maxLen;omega) rfl) ⟨g,0,none⟩ r.length cap (strs r) (by simp[Act.eval]) (by simp[strs]) Aj.out (wF _) (by unfold maxLen;omega) (by omega) (by simp) ?_;intro v' w2 ro zH zO;simp only[Nat.zero_add,List.nil_append] at ro;obtain⟨U,cr,rfl,zW⟩:=nP ro (fun e=>by simpa using zO.1 e);have B3:=ae (bg ((q9 W).alloc ly (.cells #[] 9)) zH (by simp) (fun j e=>by simp[Value.ownBlock] at e;omega));have zG:=ae ro;clear ro zH zO);go_meet;exact⟨U,cr,rfl,zW,zG.out,B3.out⟩
 case rest =>
 clear hl hA zX;obtain⟨U,cr,rfl,zW,zG,B3⟩:=hcut;have zK:w.heap.size<=W.heap.size:=B2.out.size;have n9:w.heap.size+1<W.heap.size:=R2.out.1;have zI:w.heap.size+1+1<W.heap.size:=Z2.out.1;have zP:w.heap.size+1≠U:=by omega
 have AD:W.heap.size<=wc.heap.size:=B3.out.size;clear l c0 f0 c1 f1 c2 S c3 f3 c4 P c5 Q R Y T f7 M V Z O;have R3:=ae (R2.out.below B3.out R2.out.1);have Z3:=ae (Z2.out.below B3.out Z2.out.1);have G0:=(B3.out.cell (p:=⟨d.heap.size,0,none⟩) fd).trans g0;have G1:=(B3.out.cell (p:=⟨d.heap.size,1,none⟩) fd).trans g1;have G2:=(B3.out.cell (p:=⟨d.heap.size,2,none⟩) fd).trans g2;have R4:=ae (R3.out.set0 (.int .i64 ((place:Int)+1)));have Z4:=ae (Z3.out.other ⟨w.heap.size+1,0,none⟩ (.int .i64 ((place:Int)+1)) (by simp));have B4:=ae ((B2.out.trans (B3.out.mono B2.out.size)).setCell (p:=⟨w.heap.size+1,0,none⟩) (by simp) (.int .i64 ((place:Int)+1)));have O4:=ae (dt zG.out zP (.int .i64 ((place:Int)+1)) 0);have H0:=(cell_far _ ⟨w.heap.size+1,0,none⟩ ⟨d.heap.size,0,none⟩ (.int .i64 ((place:Int)+1)) (by simp;omega)).trans G0;have H1:=(cell_far _ ⟨w.heap.size+1,0,none⟩ ⟨d.heap.size,1,none⟩ (.int .i64 ((place:Int)+1)) (by simp;omega)).trans G1;have H2:=(cell_far _ ⟨w.heap.size+1,0,none⟩ ⟨d.heap.size,2,none⟩ (.int .i64 ((place:Int)+1)) (by simp;omega)).trans G2;have aq:W.heap.size<=(wc.setCell ⟨w.heap.size+1,0,none⟩ (.int .i64 ((place:Int)+1))).heap.size:=by simpa using AD
 obtain⟨An,⟨e0,v0⟩,⟨e1,v1⟩,⟨e2,v2⟩,⟨e3,v3⟩,⟨e4,v4⟩,⟨e5,v5⟩,⟨e6,v6⟩,⟨e7,v7⟩,⟨e8,v8⟩,e9,v9⟩:=R3.out;go_upto_block 0 with fail;clear An e0 v0 e1 v1 e2 v2 e3 v3 e4 v4 e5 v5 e6 v6 e7 v7 e8 v8 e9 v9;clear g0 g1 g2 G0 G1 G2 B3 R3 Z3 zG R2 Z2 O2;generalize wc.setCell ⟨w.heap.size+1,0,none⟩ (.int .i64 ((place:Int)+1))=W5 at R4 Z4 B4 O4 H0 H1 H2 aq ⊢;obtain⟨Am,AE⟩:A.size<=2000/\B.size<=2000:=by rw[EA.out,EB.out];exact pH HL.out op
 obtain⟨m,Ah⟩:∃ m,m=jX op k A place:=⟨_,rfl⟩
 have th:=ae Ah;clear Ah;go_cut [] (fun G=>op<=11/\Hid (Ten G (w.heap.size+1) (.int .i64 m) (.slice a s.length cap) (.int .i64 ((steps:Int)+1)) (.int .i64 looks) (.bool false) (.int .i64 0) (.string ⟨#[]⟩) (.bool false) (.string ⟨#[]⟩) (.bool false))/\Hid (Ten G (w.heap.size+1+1) (.int .i64 0) (.slice none 0 0) (.int .i64 0) (.int .i64 0) (.bool false) (.int .i64 0) (.string ⟨#[]⟩) (.bool false) (.string ⟨#[]⟩) (.bool false))/\Hid (Below w.heap.size w G)/\Hid (G.ownsRow W.heap.size 9 1 (.slice (some ⟨U,0,none⟩) r.length cr) r.length (strs r))/\G.cell? ⟨d.heap.size,0,none⟩=some (.int .i64 op)/\G.cell? ⟨d.heap.size,1,none⟩=some (.string (f place).s)/\G.cell? ⟨d.heap.size,2,none⟩=some (.int .i64 k)/\W.heap.size<=G.heap.size);case first =>
  obtain⟨l,⟨c0,f0⟩,⟨c1,f1⟩,⟨c2,S⟩,⟨c3,f3⟩,⟨c4,P⟩,⟨c5,Q⟩,⟨R,Y⟩,⟨T,f7⟩,⟨M,V⟩,Z,O⟩:=R4.out;rcases yd op A zV with rfl | rfl | rfl | rfl | rfl | ⟨rfl,q1⟩ | ⟨rfl,q1,q2⟩ | ⟨rfl,q1,q2⟩ | h9
  ·go_wp2_with fail
   refine(dE _ _ _ _ _ _ _ _ _ _ _ _ _ _ _).mono ?_;rintro e w5 ⟨rfl,b⟩;have X:=ae (Z4.out.below b Z4.out.1);have C:=ae (B4.out.trans (b.mono B4.out.size));clear b;clear l c0 f0 c1 f1 c2 S c3 f3 c4 P c5 Q R Y T f7 M V Z O;obtain⟨la,⟨z0,y0⟩,⟨z1,y1⟩,⟨z2,y2⟩,⟨z3,y3⟩,⟨L,y4⟩,⟨H,y5⟩,⟨D,y6⟩,⟨N,y7⟩,⟨K,y8⟩,J,y9⟩:=X.out;go_wp2;refine bp (v:=cI ((place:Int)+1) (.slice a s.length cap) ((steps:Int)+1) looks true 0 A false ⟨#[]⟩ false) (by simp[results,Tryz.results237,go_sem,z0,z1,z2,z3,L,H,D,N,K,J]) rfl ⟨_,rfl,(by rw[SO.out,rT _ _ _ _ _ _ _ _ _ (by simp) HB.out,<-EA.out];exact⟨_,_,_,_,_,rfl⟩),dr C.out (by omega) _ _ _ _ _ _ _ _ _ _⟩
  ·go_wp2_with fail
   refine(dE _ _ _ _ _ _ _ _ _ _ _ _ _ _ _).mono ?_;rintro e w5 ⟨rfl,b⟩;have X:=ae (Z4.out.below b Z4.out.1);have C:=ae (B4.out.trans (b.mono B4.out.size));clear b;clear l c0 f0 c1 f1 c2 S c3 f3 c4 P c5 Q R Y T f7 M V Z O;obtain⟨la,⟨z0,y0⟩,⟨z1,y1⟩,⟨z2,y2⟩,⟨z3,y3⟩,⟨L,y4⟩,⟨H,y5⟩,⟨D,y6⟩,⟨N,y7⟩,⟨K,y8⟩,J,y9⟩:=X.out;go_wp2;refine bp (v:=cI ((place:Int)+1) (.slice a s.length cap) ((steps:Int)+1) looks true 1 A false ⟨#[]⟩ false) (by simp[results,Tryz.results237,go_sem,z0,z1,z2,z3,L,H,D,N,K,J]) rfl ⟨_,rfl,(by rw[SO.out,rT _ _ _ _ _ _ _ _ _ (by simp) HB.out,<-EA.out];exact⟨_,_,_,_,_,rfl⟩),dr C.out (by omega) _ _ _ _ _ _ _ _ _ _⟩
  iterate 2
   ·go_wp2_with fail
    have Z5:=ae (Z4.out.other ⟨w.heap.size+1,1,none⟩ (.slice (some ⟨U,0,none⟩) r.length cr) (by simp));have C:=ae (B4.out.setCell (p:=⟨w.heap.size+1,1,none⟩) (by simp) (.slice (some ⟨U,0,none⟩) r.length cr));have O5:=ae (dt O4.out zP (.slice (some ⟨U,0,none⟩) r.length cr) 1);have Y5:=ae (HY.out.below C.out ly);have hq:=fun(o:Nat) (ho:o=12∨o=13)=>tq o (f place).s k (place+1) (steps+1) looks (some ⟨U,0,none⟩) cr r A (dY place) b2 o2 n zS W.heap.size y _ Y5.out O5.out (by simpa using aq) ho hlk (by omega);rw[show((place+1:Nat):Int)=(place:Int)+1 by omega,show((steps+1:Nat):Int)=(steps:Int)+1 by omega] at hq;refine(hq _ (by simp)).mono ?_;rintro e w5 ⟨v,rfl,ex,b⟩;have Aw:=ae ex;obtain⟨l0,l1,l2,l3,l4,l5,l6,l7,l8,l9,Ar,Ao,rfl⟩:=ex.form;have X:=ae (Z5.out.below b zI);have B6:=ae (C.out.trans (b.mono zK));clear b hq ex;clear l c0 f0 c1 f1 c2 S c3 f3 c4 P c5 Q R Y T f7 M V Z O;obtain⟨la,⟨z0,y0⟩,⟨z1,y1⟩,⟨z2,y2⟩,⟨z3,y3⟩,⟨L,y4⟩,⟨H,y5⟩,⟨D,y6⟩,⟨N,y7⟩,⟨K,y8⟩,J,y9⟩:=X.out;go_wp2;refine bp (v:=cI l0 (.slice l1 l2 l3) l4 l5 l6 l7 l8 l9 Ar Ao) (by simp[results,Tryz.results237,go_sem,z0,z1,z2,z3,L,H,D,N,K,J]) rfl ⟨_,rfl,(by rw[SO.out,ye _ _ _ _ _ _ _ _ _ (by simp) HB.out,<-EA.out,<-ER.out];exact(uw Aw.out zI _ _ _ _ _ _ _ _ _ _).mono zK),dr B6.out (by omega) _ _ _ _ _ _ _ _ _ _⟩
  iterate 3
   ·obtain rfl:m=k:=th.out.trans (zB (by first | exact .inl rfl | exact .inr (.inl ⟨rfl,q1⟩) | exact .inr (.inr ⟨rfl,q2⟩)))
    have R5:=ae (R4.out.set0 (.int .i64 m));have Z5:=ae (Z4.out.other ⟨w.heap.size+1,0,none⟩ (.int .i64 m) (by simp));have C:=ae (B4.out.setCell (p:=⟨w.heap.size+1,0,none⟩) (by simp) (.int .i64 m));have O5:=ae (dt O4.out zP (.int .i64 m) 0);have I0:=(cell_far _ ⟨w.heap.size+1,0,none⟩ ⟨d.heap.size,0,none⟩ (.int .i64 (m:Int)) (by simp;omega)).trans H0;have I1:=(cell_far _ ⟨w.heap.size+1,0,none⟩ ⟨d.heap.size,1,none⟩ (.int .i64 (m:Int)) (by simp;omega)).trans H1;have I2:=(cell_far _ ⟨w.heap.size+1,0,none⟩ ⟨d.heap.size,2,none⟩ (.int .i64 (m:Int)) (by simp;omega)).trans H2;have HI:=ae I0;have AK:=ae I1;have AH:=ae I2;clear I0 I1 I2;go_wp2;go_meet;exact⟨by omega,R5.out,Z5.out,C.out,O5.out,HI.out,AK.out,AH.out,by simpa using aq⟩
  ·obtain rfl:m=place+1:=by rw[th.out];unfold jX;rw[if_neg (by decide),if_neg (fun h=>h.2.elim (fun e=>by rw[e] at q1;cases q1) (fun e=>by rw[e] at q2;cases q2))]
   go_wp2;go_meet;exact⟨by omega,by show Ten _ _ _ _ _ _ _ _ _ _ _ _;rw[show((place+1:Nat):Int)=(place:Int)+1 by omega];exact R4.out,Z4.out,B4.out,O4.out,H0,H1,H2,aq⟩
  ·obtain rfl:m=place+1:=by rw[th.out];unfold jX;rw[if_neg (by omega),if_neg (by omega)]
   have n15:((op:Int) == 15)=false:=by simp;omega
   have n14:((op:Int) == 14)=false:=by simp;omega
   have n12:((op:Int) == 12)=false:=by simp;omega
   have n13:((op:Int) == 13)=false:=by simp;omega
   have n10:((op:Int) == 10)=false:=by simp;omega
   have n11:((op:Int) == 11)=false:=by simp;omega
   go_wp2;go_meet;exact⟨by omega,by show Ten _ _ _ _ _ _ _ _ _ _ _ _;rw[show((place+1:Nat):Int)=(place:Int)+1 by omega];exact R4.out,Z4.out,B4.out,O4.out,H0,H1,H2,aq⟩
 case rest =>
 clear R4 Z4 B4 O4 H0 H1 H2 aq;obtain⟨zU,R4,Z4,B4,O4,G0,G1,G2,aq⟩:=hcut;obtain⟨I,zF⟩:∃ I,I=bM op k (f place).s A B:=⟨_,rfl⟩
 have n8:Hid (I=bM op k (f place).s A B/\I.length=bT op):=⟨zF,by rw[zF];exact tr _ _ _ _ _ zD zU⟩
 have Aa:Hid (so=fq I (dY place) r m (steps+1) looks):=by show _=_;rw[SO.out,wK _ _ _ _ _ _ _ _ _ zD zU HB.out Al HL.out,zF,<-EA.out,<-EB.out,<-ER.out,<-th.out]
 clear zF SO EA EB ER th;go_wp2_with fail;go_loopw [13,14] (fun rest i wr=>∃ j:Nat,j<=bT op/\i=.int .i64 j/\∃ g6 cx,rest=.slice (some ⟨g6,0,none⟩) (r.length+j) cx/\Hid (wr.ownsRow W.heap.size 9 1 (.slice (some ⟨g6,0,none⟩) (r.length+j) cx) (r.length+j) (strs r++(I.take j).map Value.string))/\Hid (Below W.heap.size wc wr)/\Hid (∀ i,i<j->(I.getD i ⟨#[]⟩).size<=2000)) (fun _ i _=>bT op - (intOf i).toNat);case atStart=>exact⟨0,by omega,rfl,U,cr,rfl,(by show World.ownsRow _ _ _ _ _ _ _;rw[List.take_zero,List.map_nil,List.append_nil];exact O4.out),Below.refl _ _,fun i hi=>absurd hi (Nat.not_lt_zero _)⟩
 case round =>
  obtain⟨j,hj,rfl,g6,cx,rfl,O6,B6,S6⟩:=hrel;have R6:=ae (R4.out.below B6.out n9);have Z6:=ae (Z4.out.below B6.out zI);have i0:=(B6.out.cell (p:=⟨d.heap.size,0,none⟩) fd).trans G0;have i1:=(B6.out.cell (p:=⟨d.heap.size,1,none⟩) fd).trans G1;have i2:=(B6.out.cell (p:=⟨d.heap.size,2,none⟩) fd).trans G2;have Af:W.heap.size<=wr.heap.size:=Nat.le_trans aq B6.out.size;have B7:=ae (B4.out.trans (B6.out.mono zK));by_cases zR:j<bT op
  ·have h8:op<=8:=ya zD zU zR
   have Ae:j<I.length:=by rw[n8.out.2];exact zR
   go_wp2_with fail;refine(qX op k (f place).s A B _ zD h8 Am AE Ax).mono ?_;rintro e w6 ⟨g7,rfl,sm,AJ,mv⟩;rw[<-n8.out.1] at sm ⊢;rw[n8.out.2] at sm ⊢;have q6:w6.cell? ⟨g7,j,none⟩=some (.string (I.getD j ⟨#[]⟩)):=by have:=sm.2 j zR;rwa[Nat.zero_add] at this
   obtain⟨E,hE⟩:∃ E,E=I.getD j ⟨#[]⟩:=⟨_,rfl⟩
   rw[<-hE] at q6;have HE:=ae hE;clear hE;have O7:=ae (own_below O6.out mv ly);have B8:=ae (B6.out.trans (mv.mono Af));have Az:W.heap.size<=w6.heap.size:=Nat.le_trans Af mv.size;have R7:=ae (R6.out.below mv R6.out.1);have Z7:=ae (Z6.out.below mv Z6.out.1);have B9:=ae (B7.out.trans (mv.mono B7.out.size));clear sm AJ mv i0 i1 i2 R6 Z6;by_cases AA:(E.size:Int)<=2000
   ·obtain⟨zL,hi,zN,zT,zQ⟩:=info_parts gB
    go_wp2_with (at_builtin;refine wpList_append_own _ rfl (.tmp 158) (.tmp 163) 39 rfl W.heap.size 9 zL (.string ⟨#[]⟩) 1 16 Tryz.underlying39 hi zN zT zQ rfl (by decide) (.slice (some ⟨g6,0,none⟩) (r.length+j) cx) (r.length+j) (strs r++(I.take j).map Value.string) (by simp[Act.eval]) (O7.out.alloc _) ⟨w6.heap.size,0,none⟩ 1 1 [.string E] (by simp[Act.eval]) rfl (dL w6 _ _) (by simp[Value.oneCell']) (by unfold maxLen;omega) (by omega) (by simp<;>omega) ?_;intro v' w7 qr ur zJ;obtain⟨g8,M,rfl,hg8⟩:=nP qr (fun e=>by simpa using zJ.1 e);have O8:=ae qr;have AG:=ae (bg (B8.out.alloc Az (.cells #[.string E] 9)) ur (by simp<;>omega) (fun i e=>(O7.out.lt i e).1));clear qr ur zJ)
    exact⟨⟨j+1,by omega,by go_num,g8,M,rfl,by show World.ownsRow _ _ _ _ _ _ _;rw[ux Ae,<-List.append_assoc,<-HE.out];exact O8.out,AG.out,fun i hi=>by
     by_cases e:i=j
     ·subst e;rw[<-HE.out];omega
     ·exact S6.out i (by omega)⟩,by simp[intOf];omega⟩
   ·have ER:=ae (show so=.inr (.inl (2,(dY place),(steps+1))) by rw[Aa.out];unfold fq;rw[yc Ae (by rw[<-HE.out];exact AA)];rfl)
    obtain⟨l,⟨c0,f0⟩,⟨c1,f1⟩,⟨c2,S⟩,⟨c3,f3⟩,⟨c4,P⟩,⟨c5,Q⟩,⟨R,Y⟩,⟨T,f7⟩,⟨M,V⟩,Z,O⟩:=R7.out;go_wp2_with fail;refine(dE _ _ _ _ _ _ _ _ _ _ _ _ _ _ _).mono ?_;rintro e w5 ⟨rfl,b⟩;have X:=ae (Z7.out.below b Z7.out.1);have C:=ae (B9.out.trans (b.mono B9.out.size));clear b;clear l c0 f0 c1 f1 c2 S c3 f3 c4 P c5 Q R Y T f7 M V Z O;obtain⟨la,⟨z0,y0⟩,⟨z1,y1⟩,⟨z2,y2⟩,⟨z3,y3⟩,⟨L,y4⟩,⟨H,y5⟩,⟨D,y6⟩,⟨N,y7⟩,⟨K,y8⟩,J,y9⟩:=X.out;go_wp2;refine bp (v:=cI m (.slice a s.length cap) ((steps:Int)+1) looks true 2 (dY place) false ⟨#[]⟩ false) (by simp[results,Tryz.results237,go_sem,z0,z1,z2,z3,L,H,D,N,K,J]) rfl ⟨_,rfl,(by rw[ER.out];exact⟨_,_,_,_,_,rfl⟩),dr C.out (by omega) _ _ _ _ _ _ _ _ _ _⟩
  ·have e:j=bT op:=by omega
   subst e;have ER:=ae (show so=.inl (m,(steps+1),looks,(I.reverse++r)) by rw[Aa.out];unfold fq;rw[wI (fun i hi=>S6.out i (by rw[n8.out.2] at hi;exact hi))];rfl);have zZ:=ae (show(I.reverse++r).length=r.length+bT op by rw[List.length_append,List.length_reverse,n8.out.2];omega);obtain⟨l,⟨c0,f0⟩,⟨c1,f1⟩,⟨c2,S⟩,⟨c3,f3⟩,⟨c4,P⟩,⟨c5,Q⟩,⟨R,Y⟩,⟨T,f7⟩,⟨M,V⟩,Z,O⟩:=R6.out;obtain⟨la,⟨z0,y0⟩,⟨z1,y1⟩,⟨z2,y2⟩,⟨z3,y3⟩,⟨L,y4⟩,⟨H,y5⟩,⟨D,y6⟩,⟨N,y7⟩,⟨K,y8⟩,J,y9⟩:=Z6.out;have OE:=ae (ownsRow_setCell_below O6.out (a:=⟨w.heap.size+1,1,none⟩) n9 (.slice (some ⟨g6,0,none⟩) (r.length+bT op) cx));have BE:=ae (B7.out.setCell (p:=⟨w.heap.size+1,1,none⟩) (by simp) (.slice (some ⟨g6,0,none⟩) (r.length+bT op) cx));go_wp2;refine bp (v:=cI m (.slice (some ⟨g6,0,none⟩) (r.length+bT op) cx) ((steps:Int)+1) looks false 0 ⟨#[]⟩ false ⟨#[]⟩ false) (by simp[results,Tryz.results237,go_sem,z0,z1,z2,z3,L,H,D,N,K,J]) rfl ⟨_,rfl,?_,dr BE.out (by omega) _ _ _ _ _ _ _ _ _ _⟩;rw[ER.out];refine(uw (v:=cI m (.slice (some ⟨g6,0,none⟩) (r.length+bT op) cx) ((steps:Int)+1) looks false 0 ⟨#[]⟩ false ⟨#[]⟩ false) (base:=W.heap.size) ?_ zI _ _ _ _ _ _ _ _ _ _).mono zK;refine⟨some ⟨g6,0,none⟩,cx,by rw[zZ.out];simp,?_⟩;rw[zZ.out,wH];have h:=OE.out;rw[show I.take (bT op)=I by rw[<-n8.out.2];exact List.take_length] at h;exact h
def yQ (f:Nat->Ins)(cnt:Nat)(y:Nat->aC)(n:Nat)(T:Turn)(st:Nat):SO->Prop
 | .inr (.inl (c,x,k))=>T=eV c x k
 | .inr (.inr (a,nm,k))=>T=kj a nm k
 | .inl (p,k,l,s)=>k=st+1/\k<=2000/\dx f cnt y n (2001 - k) p k l s=T/\p<=2000/\l<=200/\s.length<=50/\∀ x∈s,x.size<=2000
theorem rh {f:Nat->Ins}{cnt place steps looks:Nat}{b:List ByteArray}(h:b.length<=50)(c:∀ x∈b,x.size<=2000)(hlk:looks<=200)(d:dK f cnt=true)(hc:cnt<=200):pz (de f cnt place steps looks b) looks:=by
 unfold de;split
 ·trivial
 ·rename_i h1
  split
  ·trivial
  ·split
   ·trivial
   ·rename_i g
    have hi:=j8 d (show place<cnt by omega);simp only[cC,decide_eq_true_eq] at hi;obtain⟨i1,i2,i3,i4,i5⟩:=hi;have hmt:ec (f place).op<=2000:=by unfold ec;split<;>(try split)<;>omega
    have hmt2:bF (f place).op<=2000:=by unfold bF;split<;>omega
    exact jG _ _ _ _ _ _ h c (by omega) (by omega) (by omega) hlk (by omega) (by omega) (by simpa using g)
theorem ri {f:Nat->Ins}{cnt place steps looks:Nat}{b:List ByteArray}{a:Bool}{nm:ByteArray}{s:List ByteArray}(h:de f cnt place steps looks b=.inr (.inr (a,nm,s))):place<cnt:=by
 unfold de at h;split at h
 ·cases h
 ·omega
theorem yk {f:Nat->Ins}{cnt:Nat}{y:Nat->aC}{n:Nat}{T:Turn}{p st l:Nat}{s:List ByteArray}(hst:st<=2000)(z:l<=200)(B:s.length<=50)(t:∀ x∈s,x.size<=2000)(u:dK f cnt=true)(E:cnt<=200)(C:bO y n=true)
  (b:dx f cnt y n (2001 - st) p st l s=T):yQ f cnt y n T st (eZ f cnt y n p st l s):=by
 obtain⟨j,G⟩:∃ j,2001 - st=j+1:=⟨2000 - st,by omega⟩
 rw[G,dx] at b;have hF:=rh (place:=p) (steps:=st) B t z u E;unfold eZ;rcases h:de f cnt p st l s with ⟨D,p'⟩ | ⟨c,x⟩ | ⟨a,nm,D⟩
 ·rw[h] at b hF
  obtain⟨i,A⟩:=pA h;obtain⟨f1,g,m⟩:=hF;simp only[i] at b ⊢;exact⟨rfl,by omega,by rw[show 2001 - (st+1)=j by omega];exact b,m,z,f1,g⟩
 ·rw[h] at b
  exact b.symm
 ·rw[h] at b hF
  obtain⟨i,A⟩:=ma h;obtain⟨f1,g,m,f4⟩:=hF;have hp:=ri h;simp only[i] at b ⊢;simp only[fO,iu];by_cases r:n<=l
  ·rw[if_pos r] at b ⊢
   exact b.symm
  ·rw[if_neg r] at b ⊢
   by_cases o:a=false
   ·rw[if_pos o] at b ⊢
    refine⟨rfl,by omega,by rw[show 2001 - (st+1)=j by omega];exact b,by omega,by omega,by simp;omega,fun x d=>?_⟩;rcases List.mem_cons.1 d with rfl | d
    ·exact ji _
    ·exact g x d
   ·rw[if_neg o] at b ⊢
    by_cases k:(y l).has=false
    ·rw[if_pos k] at b ⊢
     exact b.symm
    ·rw[if_neg k] at b ⊢
     by_cases q:(y l).code=0
     ·rw[if_pos q] at b ⊢
      refine⟨rfl,by omega,by rw[show 2001 - (st+1)=j by omega];exact b,by omega,by omega,by simp;omega,fun x d=>?_⟩;rcases List.mem_cons.1 d with rfl | d
      ·exact(ws C (show l<n by omega)).1
      ·exact g x d
     ·rw[if_neg q] at b ⊢
      exact b.symm
theorem Ten.put {w:World}{g:Nat}{b k m n j i c l f d:Value}(h:Ten w g b k m n j i c l f d)(u0 u1 u2 u3 u4 u5 u6 u7 u8 u9:Value):Ten ((((((((((w.setCell ⟨g,0,none⟩ u0).setCell ⟨g,1,none⟩ u1).setCell ⟨g,2,none⟩ u2).setCell ⟨g,3,none⟩ u3).setCell ⟨g,4,none⟩ u4).setCell ⟨g,5,none⟩ u5).setCell ⟨g,6,none⟩ u6).setCell ⟨g,7,none⟩ u7).setCell ⟨g,8,none⟩ u8).setCell ⟨g,9,none⟩ u9) g u0 u1 u2 u3 u4 u5 u6 u7 u8 u9 :=
 (((((((((h.set0 u0).set1 u1).set2 u2).set3 u3).set4 u4).set5 u5).set6 u6).set7 u7).set8 u8).set9 u9
theorem lB {g:Nat}{u w:World}(h:Only g u w)(u0 u1 u2 u3 u4 u5 u6 u7 u8 u9:Value):Only g u ((((((((((w.setCell ⟨g,0,none⟩ u0).setCell ⟨g,1,none⟩ u1).setCell ⟨g,2,none⟩ u2).setCell ⟨g,3,none⟩ u3).setCell ⟨g,4,none⟩ u4).setCell ⟨g,5,none⟩ u5).setCell ⟨g,6,none⟩ u6).setCell ⟨g,7,none⟩ u7).setCell ⟨g,8,none⟩ u8).setCell ⟨g,9,none⟩ u9) :=
 fG (fG (fG (fG (fG (fG (fG (fG (fG (fG h 0 u0) 1 u1) 2 u2) 3 u3) 4 u4) 5 u5) 6 u6) 7 u7) 8 u8) 9 u9
def rW (w:World)(g b:Nat)(f:Nat->Ins)(cnt:Nat)(y:Nat->aC)(n:Nat)(T:Turn)(k:Nat):Prop :=
 (∃ p st l s a cap,Ten w g (.int .i64 (p:Nat)) (.slice a (List.length s) cap) (.int .i64 (st:Nat)) (.int .i64 (l:Nat)) (.bool false) (.int .i64 0) (.string ⟨#[]⟩) (.bool false) (.string ⟨#[]⟩) (.bool false)/\w.ownsRow b 9 1 (.slice a s.length cap) s.length (strs s) /\
  st<=2000/\dx f cnt y n (2001 - st) p st l s=T/\p<=2000/\l<=200/\s.length<=50/\(∀ x∈s,x.size<=2000)/\2002 - st<=k) ∨
 (∃ at_ sv lk c x,∃ st:Nat,Ten w g at_ sv (.int .i64 st) lk (.bool true) (.int .i64 c) (.string x) (.bool false) (.string ⟨#[]⟩) (.bool false)/\T=eV c x st) ∨
 (∃ at_ sv lk a nm,∃ st:Nat,Ten w g at_ sv (.int .i64 st) lk (.bool false) (.int .i64 0) (.string ⟨#[]⟩) (.bool a) (.string nm) (.bool true)/\T=kj a nm st)
theorem ym {w:World}{b n cap:Nat}{e:TypeId}{a:Option Addr}{c:List Value}(h:w.ownsRow b e 1 (.slice a n cap) n c){k:Nat}(t:k<b)(d o q r m l f p i g:Value):World.ownsRow ((((((((((w.setCell ⟨k,0,none⟩ d).setCell ⟨k,1,none⟩ o).setCell ⟨k,2,none⟩ q).setCell ⟨k,3,none⟩ r).setCell ⟨k,4,none⟩ m).setCell ⟨k,5,none⟩ l).setCell ⟨k,6,none⟩ f).setCell ⟨k,7,none⟩ p).setCell ⟨k,8,none⟩ i).setCell ⟨k,9,none⟩ g) b e 1 (.slice a n cap) n c:=by have s:∀ {w:World} (j:Nat) (u:Value),w.ownsRow b e 1 (.slice a n cap) n c->(w.setCell ⟨k,j,none⟩ u).ownsRow b e 1 (.slice a n cap) n c:=fun j u h=>ownsRow_setCell_below h (a:=⟨k,j,none⟩) t u;exact s 9 g (s 8 i (s 7 p (s 6 f (s 5 l (s 4 m (s 3 r (s 2 q (s 1 o (s 0 d h)))))))))
theorem pR (c d cnt cap n m:Nat)(A:Option Addr)(f:Nat->Ins)(w:World)(hn:cnt<=1048576)(r:valid f cnt=false)(p:RowIns w c d cnt f)(t:∀ i,i<cnt->(f i).s.size<=maxLen):Calls Tryz.prog 221 #[.agg #[.slice (some ⟨c,d,none⟩) cnt cap],.slice A n m] w fun e j=>e=.returned badT.v/\Below w.heap.size w j:=by have G:=ae p;have l:=ae ((((q9 w).alloc ly (.cells #[.slice (some ⟨c,d,none⟩) cnt cap] 31))).alloc (by simp) (.cells #[.bool false,.int .i64 0,.string ⟨#[]⟩,.bool false,.string ⟨#[]⟩,.int .i64 0] 70));have h:=mO (w.alloc (.cells #[.slice (some ⟨c,d,none⟩) cnt cap] 31)) (.bool false) (.int .i64 0) (.string ⟨#[]⟩) (.bool false) (.string ⟨#[]⟩) (.int .i64 0) 70;rw[show(w.alloc (.cells #[.slice (some ⟨c,d,none⟩) cnt cap] 31)).heap.size=w.heap.size+1 by simp] at h;have u:=ae h;have k:=fun j E H=>ep c d cnt cap f j hn E H t;rw[r] at k;have q:=ae k;clear h k p t r;go_enter Tryz.func221,Tryz.ntmps221;go_wp2_with fail;have o:=ae (G.out.below l.out ly);refine(q.out _ o.out.1 o.out.2).mono ?_;rintro e w1 ⟨rfl,g⟩;have b:=ae (u.out.below g (by simp));have I:=ae (l.out.trans (g.mono (by simp;omega)));clear g l u o;obtain⟨v0,C,y0⟩:=b.out.2 0 (by omega);obtain⟨v1,x,y1⟩:=b.out.2 1 (by omega);obtain⟨v2,D,y2⟩:=b.out.2 2 (by omega);obtain⟨v3,B,y3⟩:=b.out.2 3 (by omega);obtain⟨v4,y,y4⟩:=b.out.2 4 (by omega);obtain⟨v5,z,y5⟩:=b.out.2 5 (by omega);go_wp2;refine bp (v:=badT.v) (by simp[results,Tryz.results221,go_sem,Turn.v,badT,C,x,D,B,y,z]) rfl ⟨rfl,fN I.out (by omega) _ _ _ _ _ _⟩
theorem pS (c d cnt cap n m:Nat)(A:Option Addr)(f:Nat->Ins)(w:World)(hn:cnt<=1048576)(r:valid f cnt=true)(p:RowIns w c d cnt f)(t:∀ i,i<cnt->(f i).s.size<=maxLen)(hn2:200<(n:Int)):Calls Tryz.prog 221 #[.agg #[.slice (some ⟨c,d,none⟩) cnt cap],.slice A n m] w fun e j=>e=.returned badT.v/\Below w.heap.size w j:=by have G:=ae p;have l:=ae ((((q9 w).alloc ly (.cells #[.slice (some ⟨c,d,none⟩) cnt cap] 31))).alloc (by simp) (.cells #[.bool false,.int .i64 0,.string ⟨#[]⟩,.bool false,.string ⟨#[]⟩,.int .i64 0] 70));have h:=mO (w.alloc (.cells #[.slice (some ⟨c,d,none⟩) cnt cap] 31)) (.bool false) (.int .i64 0) (.string ⟨#[]⟩) (.bool false) (.string ⟨#[]⟩) (.int .i64 0) 70;rw[show(w.alloc (.cells #[.slice (some ⟨c,d,none⟩) cnt cap] 31)).heap.size=w.heap.size+1 by simp] at h;have u:=ae h;have k:=fun j E H=>ep c d cnt cap f j hn E H t;rw[r] at k;have q:=ae k;clear h k p t r;go_enter Tryz.func221,Tryz.ntmps221;go_wp2_with fail;have o:=ae (G.out.below l.out ly);refine(q.out _ o.out.1 o.out.2).mono ?_;rintro e w1 ⟨rfl,g⟩;have b:=ae (u.out.below g (by simp));have I:=ae (l.out.trans (g.mono (by simp;omega)));clear g l u o;obtain⟨v0,C,y0⟩:=b.out.2 0 (by omega);obtain⟨v1,x,y1⟩:=b.out.2 1 (by omega);obtain⟨v2,D,y2⟩:=b.out.2 2 (by omega);obtain⟨v3,B,y3⟩:=b.out.2 3 (by omega);obtain⟨v4,y,y4⟩:=b.out.2 4 (by omega);obtain⟨v5,z,y5⟩:=b.out.2 5 (by omega);go_wp2;refine bp (v:=badT.v) (by simp[results,Tryz.results221,go_sem,Turn.v,badT,C,x,D,B,y,z]) rfl ⟨rfl,fN I.out (by omega) _ _ _ _ _ _⟩
theorem rj (m o cnt cap R o2 n P:Nat)(f:Nat->Ins)(y:Nat->aC)(w:World)(hn:cnt<=1048576)(hv:valid f cnt=true)(hn2:(n:Int)<=200)(hP:RowIns w m o cnt f)(hY:RowReply w R o2 n y)(hs:∀ i,i<cnt->(f i).s.size<=maxLen)(T:Turn)(hT:T=if bO y n=false then badT else dx f cnt y n 2001 0 0 0 []):Calls Tryz.prog 221 #[.agg #[.slice (some ⟨m,o,none⟩) cnt cap],.slice (some ⟨R,o2,none⟩) n P] w fun e w'=>e=.returned T.v/\Below w.heap.size w w':=by
 have HV:=ae (cH hv).1;have sm:cnt<=200:=by have:=(cH hv).2.2;omega
 have O:=ae hY;have U:=ae hT;clear hY hT;have HP:=ae hP;have A0:=ae ((((q9 w).alloc ly (.cells #[.slice (some ⟨m,o,none⟩) cnt cap] 31))).alloc (by simp) (.cells #[.bool false,.int .i64 0,.string ⟨#[]⟩,.bool false,.string ⟨#[]⟩,.int .i64 0] 70));have S:=mO (w.alloc (.cells #[.slice (some ⟨m,o,none⟩) cnt cap] 31)) (.bool false) (.int .i64 0) (.string ⟨#[]⟩) (.bool false) (.string ⟨#[]⟩) (.int .i64 0) 70;rw[show(w.alloc (.cells #[.slice (some ⟨m,o,none⟩) cnt cap] 31)).heap.size=w.heap.size+1 by simp] at S;have X0:=ae S;have IV:=fun w' h1 h2=>ep m o cnt cap f w' hn h1 h2 hs;rw[hv] at IV;have ro:=ae IV;clear S IV hP hs hv;go_enter Tryz.func221,Tryz.ntmps221;go_wp2_with fail;have P1:=ae (HP.out.below A0.out ly);refine(ro.out _ P1.out.1 P1.out.2).mono ?_;rintro e Z ⟨rfl,M⟩;have c1:Z.cell? ⟨w.heap.size,0,none⟩=some (.slice (some ⟨m,o,none⟩) cnt cap):=(M.cell (p:=⟨w.heap.size,0,none⟩) (by simp;omega)).trans (by simp);have HX:=ae (X0.out.below M (by simp));have B1:=ae (A0.out.trans (M.mono (by simp;omega)));have z1:w.heap.size+1<Z.heap.size:=HX.out.1;clear M A0 X0 P1;have qr:=ae (O.out.below B1.out ly);go_wp2_with fail;go_loopw [5] (fun i wr=>∃ j:Nat,j<=n/\i=.int .i64 j/\Hid (bO y j=true)/\Below Z.heap.size Z wr) (fun i _=>n - (intOf i).toNat);case atStart=>exact⟨0,by omega,rfl,rfl,Below.refl _ _⟩
 case round =>
  obtain⟨j,hj,rfl,HK,Q⟩:=hrel;have b:=ae (HX.out.below Q HX.out.1);have I:=ae (B1.out.trans (Q.mono B1.out.size));have cp:wr.cell? ⟨w.heap.size,0,none⟩=some (.slice (some ⟨m,o,none⟩) cnt cap):=(Q.cell (p:=⟨w.heap.size,0,none⟩) (by simp;omega)).trans c1;have zr:w.heap.size+1<wr.heap.size:=b.out.1;have la:=ae Q;clear Q;by_cases t:j<n
  ·obtain⟨d0,d1,d2⟩:=(O.out.below I.out ly).2 j t
   obtain⟨v0,C,y0⟩:=b.out.2 0 (by omega);obtain⟨v1,J,y1⟩:=b.out.2 1 (by omega);obtain⟨v2,D,y2⟩:=b.out.2 2 (by omega);obtain⟨v3,A,y3⟩:=b.out.2 3 (by omega);obtain⟨v4,H,y4⟩:=b.out.2 4 (by omega);obtain⟨v5,B,y5⟩:=b.out.2 5 (by omega);by_cases g1:((y j).text.size:Int)<=2000
   ·by_cases g2:0<=(y j).code
    ·by_cases g3:(y j).code<=7
     ·go_wp2
      refine⟨⟨j+1,by omega,by go_num,?_,?_⟩,by simp[intOf];omega⟩
      ·show bO y (j+1)=true
       simp only[bO,HK.out,cP,Bool.true_and,decide_eq_true_eq];omega
      ·exact la.out
     ·go_wp2
      have z:T=badT:=by rw[U.out,if_pos (fB t (by simp only[cP,decide_eq_false_iff_not];omega))]
      refine bp (v:=badT.v) (by simp[results,Tryz.results221,go_sem,Turn.v,badT,C,J,D,A,H,B]) rfl ⟨by rw[z],fN I.out (by omega) _ _ _ _ _ _⟩
    ·go_wp2
     have z:T=badT:=by rw[U.out,if_pos (fB t (by simp only[cP,decide_eq_false_iff_not];omega))]
     refine bp (v:=badT.v) (by simp[results,Tryz.results221,go_sem,Turn.v,badT,C,J,D,A,H,B]) rfl ⟨by rw[z],fN I.out (by omega) _ _ _ _ _ _⟩
   ·go_wp2
    have z:T=badT:=by rw[U.out,if_pos (fB t (by simp only[cP,decide_eq_false_iff_not];omega))]
    refine bp (v:=badT.v) (by simp[results,Tryz.results221,go_sem,Turn.v,badT,C,J,D,A,H,B]) rfl ⟨by rw[z],fN I.out (by omega) _ _ _ _ _ _⟩
  ·have e:j=n:=by omega
   subst e;have z:T=dx f cnt y j 2001 0 0 0 []:=by rw[U.out,if_neg (by simp[HK.out])]
   have ET:=ae z;clear z U qr;have RN:=ae (cQ wr (.int .i64 0) (.slice none 0 0) (.int .i64 0) (.int .i64 0) (.bool false) (.int .i64 0) (.string ⟨#[]⟩) (.bool false) (.string ⟨#[]⟩) (.bool false) 297 wr.heap.size rfl);have A2:=ae ((q9 wr).alloc ly (.cells #[.int .i64 0,.slice none 0 0,.int .i64 0,.int .i64 0,.bool false,.int .i64 0,.string ⟨#[]⟩,.bool false,.string ⟨#[]⟩,.bool false] 297));have XN:=ae (b.out.below A2.out b.out.1);have BN:=ae (I.out.trans (A2.out.mono I.out.size));have cN:=(A2.out.cell (p:=⟨w.heap.size,0,none⟩) (by simp;omega)).trans cp;have L:wr.heap.size<(wr.alloc (.cells #[.int .i64 0,.slice none 0 0,.int .i64 0,.int .i64 0,.bool false,.int .i64 0,.string ⟨#[]⟩,.bool false,.string ⟨#[]⟩,.bool false] 297)).heap.size:=by simp
   go_wp2_with fail;clear c1 cp;generalize wr.alloc (.cells #[.int .i64 0,.slice none 0 0,.int .i64 0,.int .i64 0,.bool false,.int .i64 0,.string ⟨#[]⟩,.bool false,.string ⟨#[]⟩,.bool false] 297)=W at RN XN BN cN L ⊢;generalize wr.heap.size=u at RN zr L ⊢;have ur:R<u:=lj O.out.1 (by omega);have mv:m<u:=lj HP.out.1 (by omega);have S0:Hid (rW W u W.heap.size f cnt y j T 2002):=.inl ⟨0,0,0,[],none,0,RN.out,World.ownsRow_nil _ _ _ _,by omega,ET.out.symm,by omega,by omega,by simp,by simp,by omega⟩;have PN:=ae (HP.out.below BN.out ly);have YN:=ae (O.out.below BN.out ly);clear RN ET b I la t HX B1 HP O;go_loopg [] 2002 (fun g wr=>rW wr u W.heap.size f cnt y j T g/\Only u W wr);case atStart=>exact⟨S0.out,Only.refl _ _⟩
   case round =>
    obtain⟨hst,E⟩:=hrel;have HO:=ae E;have cw:wr.cell? ⟨w.heap.size,0,none⟩=some (.slice (some ⟨m,o,none⟩) cnt cap):=(E.cell w.heap.size 0 (by omega) (by omega)).trans cN;have aq:u<wr.heap.size:=lj L E.size;have bt:=ae (E.below (Nat.le_refl u) (Nat.le_of_lt L));have BW:=ae (BN.out.trans (E.below (show w.heap.size<=u by omega) (by omega)));have d:=ae (XN.out.only E (by omega));have zw:w.heap.size+1<wr.heap.size:=d.out.1;clear E;rcases hst with ⟨p,st,l,s,a,ld,h,Y,k1,k2,k3,k4,k5,k6,k7⟩ | ⟨at_,sv,lk,c,x,st,h,q⟩ | ⟨at_,sv,lk,a,nm,st,h,q⟩
    ·have th:=ae h
     have OW:=ae Y;have n9:=ae (yk k1 k4 k5 k6 HV.out sm HK.out k2);have K6:=ae k6;have PW:Hid (RowIns wr m o cnt f):=⟨lj PN.out.1 HO.out.size,fun i hi=>(PN.out.2 i hi).below bt.out mv⟩
     have YW:Hid (RowReply wr R o2 j y):=⟨lj YN.out.1 HO.out.size,fun i hi=>(YN.out.2 i hi).below bt.out ur⟩
     obtain⟨V,⟨c0,f0⟩,⟨c1,f1⟩,⟨c2,f2⟩,⟨c3,f3⟩,⟨c4,f4⟩,⟨c5,f5⟩,⟨c6,f6⟩,⟨c7,f7⟩,⟨c8,f8⟩,c9,f9⟩:=h;clear Y k2 k6;go_wp2_with fail;refine(tC m o cnt cap p st l f a s ld R o2 j P W.heap.size y _ PW.out YW.out OW.out k3 k1 k4 k5 K6.out HV.out).mono ?_;rintro e w3 ⟨v,rfl,K,X⟩;have N:=ae (th.out.below X aq);have O3:=ae (HO.out.bel X);clear V c0 f0 c1 f1 c2 f2 c3 f3 c4 f4 c5 f5 c6 f6 c7 f7 c8 f8 c9 f9;clear X;have r:=n9.out;obtain⟨g,rfl⟩:∃ g,gk=g+1:=⟨gk - 1,by omega⟩
     generalize eZ f cnt y j p st l s=so at K r;rcases so with ⟨p',n8,l',s'⟩ | ⟨c,x,k⟩ | ⟨a1,nm,k⟩
     ·obtain⟨a',c',rfl,fd⟩:=K
      obtain⟨m1,m2,m3,m4,m5,m6,m7⟩:=r;have OE:=ae fd;have M3:=ae m3;have M7:=ae m7;have M1:=ae m1;clear fd m3 m7 m1;obtain⟨ex,⟨e0,u0⟩,⟨e1,u1⟩,⟨e2,u2⟩,⟨e3,u3⟩,⟨e4,u4⟩,⟨e5,u5⟩,⟨e6,u6⟩,⟨e7,u7⟩,⟨e8,u8⟩,e9,u9⟩:=N.out;go_wp2;go_roundg g;case measure=>omega
      case rel=>exact⟨.inl ⟨p',n8,l',s',a',c',N.out.put _ _ _ _ _ _ _ _ _ _,aB (ym OE.out aq _ _ _ _ _ _ _ _ _ _) HO.out.size,m2,M3.out,m4,m5,m6,M7.out,by have:=M1.out;omega⟩,lB O3.out _ _ _ _ _ _ _ _ _ _⟩
     ·obtain⟨at_,a',n',c',lk,rfl⟩:=K
      have q:T=eV c x k:=r;have G:=ae q;clear q r;obtain⟨ex,⟨e0,u0⟩,⟨e1,u1⟩,⟨e2,u2⟩,⟨e3,u3⟩,⟨e4,u4⟩,⟨e5,u5⟩,⟨e6,u6⟩,⟨e7,u7⟩,⟨e8,u8⟩,e9,u9⟩:=N.out;go_wp2;go_roundg g;case measure=>omega
      case rel=>exact⟨.inr (.inl ⟨_,_,_,_,_,_,N.out.put _ _ _ _ _ _ _ _ _ _,G.out⟩),lB O3.out _ _ _ _ _ _ _ _ _ _⟩
     ·obtain⟨at_,a',n',c',lk,rfl⟩:=K
      have q:T=kj a1 nm k:=r;have G:=ae q;clear q r;obtain⟨ex,⟨e0,u0⟩,⟨e1,u1⟩,⟨e2,u2⟩,⟨e3,u3⟩,⟨e4,u4⟩,⟨e5,u5⟩,⟨e6,u6⟩,⟨e7,u7⟩,⟨e8,u8⟩,e9,u9⟩:=N.out;go_wp2;go_roundg g;case measure=>omega
      case rel=>exact⟨.inr (.inr ⟨_,_,_,_,_,_,N.out.put _ _ _ _ _ _ _ _ _ _,G.out⟩),lB O3.out _ _ _ _ _ _ _ _ _ _⟩
    ·have G:=ae q
     obtain⟨V,⟨c0,f0⟩,⟨c1,f1⟩,⟨c2,f2⟩,⟨c3,f3⟩,⟨c4,f4⟩,⟨c5,f5⟩,⟨c6,f6⟩,⟨c7,f7⟩,⟨c8,f8⟩,c9,f9⟩:=h;obtain⟨v0,C,y0⟩:=d.out.2 0 (by omega);obtain⟨v1,J,y1⟩:=d.out.2 1 (by omega);obtain⟨v2,D,y2⟩:=d.out.2 2 (by omega);obtain⟨v3,A,y3⟩:=d.out.2 3 (by omega);obtain⟨v4,H,y4⟩:=d.out.2 4 (by omega);obtain⟨v5,B,y5⟩:=d.out.2 5 (by omega);clear q;go_wp2;refine bp (v:=T.v) (by rw[G.out];simp[results,Tryz.results221,go_sem,Turn.v,eV,C,J,D,A,H,B]) rfl ⟨rfl,fN BW.out (by omega) _ _ _ _ _ _⟩
    ·have G:=ae q
     obtain⟨V,⟨c0,f0⟩,⟨c1,f1⟩,⟨c2,f2⟩,⟨c3,f3⟩,⟨c4,f4⟩,⟨c5,f5⟩,⟨c6,f6⟩,⟨c7,f7⟩,⟨c8,f8⟩,c9,f9⟩:=h;obtain⟨v0,C,y0⟩:=d.out.2 0 (by omega);obtain⟨v1,J,y1⟩:=d.out.2 1 (by omega);obtain⟨v2,D,y2⟩:=d.out.2 2 (by omega);obtain⟨v3,A,y3⟩:=d.out.2 3 (by omega);obtain⟨v4,H,y4⟩:=d.out.2 4 (by omega);obtain⟨v5,B,y5⟩:=d.out.2 5 (by omega);clear q;go_wp2;refine bp (v:=T.v) (by rw[G.out];simp[results,Tryz.results221,go_sem,Turn.v,kj,C,J,D,A,H,B]) rfl ⟨rfl,fN BW.out (by omega) _ _ _ _ _ _⟩
theorem pT (c d cnt cap k l n b:Nat)(f:Nat->Ins)(y:Nat->aC)(w:World)(hn:cnt<=1048576)(j:RowIns w c d cnt f)(p:RowReply w k l n y)(m:∀ i,i<cnt->(f i).s.size<=maxLen):Calls Tryz.prog 221 #[.agg #[.slice (some ⟨c,d,none⟩) cnt cap],.slice (some ⟨k,l,none⟩) n b] w fun e q=>e=.returned (oH f cnt y n).v/\Below w.heap.size w q:=by
 unfold oH;by_cases g:valid f cnt=false
 ·rw[if_pos g]
  exact pR c d cnt cap n b _ f w hn g j m
 ·have h:valid f cnt=true:=by simpa using g
  rw[if_neg g];by_cases o:200<n
  ·rw[if_pos o]
   exact pS c d cnt cap n b _ f w hn h j m (by omega)
  ·rw[if_neg o]
   exact rj c d cnt cap k l n b f y w hn h (by omega) j p m _ rfl
end Go.Proofs.YtkophfgkcijjkaaGreatDoor.Vp
