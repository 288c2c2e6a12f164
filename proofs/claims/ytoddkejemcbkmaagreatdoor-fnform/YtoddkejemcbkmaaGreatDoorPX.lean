import Derived.Deep.CutBlock
import Derived.Test.YtoddkejemcbkmaaGreatDoorPW
import Derived.BigRegion
import Derived.Test.YtoddkejemcbkmaaGreatDoorQC
set_option maxRecDepth 100000
set_option maxHeartbeats 40000000
open Go renaming Addr.mk->Q,Value.slice->Z,Value.string->U,Value.int->J,Value.bool->ZD,Obj.cells->N,IntKind.i64->I,World->M,Value->ZC,Ending.returned->ZF,World.cell?->A,Proofs.Tryz.prog->Pg
open Option renaming none->Y,some->T
open Bool renaming false->ZA,true->ZG
namespace Go.Proofs.YtoddkejemcbkmaaGreatDoor.Vp
open Tryz RowKit Ca
variable {b c n:Nat}{w:M}{R:List DR}
def L6I (h wr:M)(b f:Nat)(g:List (List UInt8))(j:Nat):Prop :=
 ∃a c R,ASt wr b f (Z a R.length c) R/\SzD j (R.map (·.1))/\(∀E,bC [] (tL g) E->bC (R.map (·.1)) (tL (g.drop j)) E)/\KR b f h wr
theorem L6I.next{n g:M}{j:Nat}{h:List (List UInt8)}{f:List DR}{o:Option Addr}{i:Nat}{l:List UInt8}(r:h[j]?=T l)(t:∀E,bC [] (tL h) E->bC (R.map (·.1)) (tL (h.drop j)) E)
  (p:ASt g b c (Z o f.length i) f) (s:SzD (j+1) (f.map (·.1))) (q:KR b c n g) (h1:l=[]->f.map (·.1)=R.map (·.1)) (h2:∀G,Good (R.map (·.1)) l G->f.map (·.1)=G):L6I n g b c h (j+1):=by
 refine⟨o,i,f,p,s,λE u=>?_,q⟩;have h3:=t E u;obtain⟨x,m⟩:=p6.1 r;rw[PL x,m] at h3;exact GQ h1 h2 h3
theorem fS{W ZK V:M}{row:Option Nat}(c:Below W.heap.size W ZK)(f:ZK.grownBy V row):∀k,k<W.heap.size->T k≠row->V.heap[k]?=W.heap[k]?:=λk b hn=>(f.block k (lj b c.size) hn).trans (c.block k b)
theorem ASt.len{f:Nat}{a:Option Addr}(h:ASt w b f (Z a n c) R)(hn:R.length=n):ASt w b f (Z a R.length c) R:=by rw[hn];exact h
theorem AcB.aa{c:M}{B:Nat}{v:ZC}(h:AcB w b v)(hb:Below B w c)(f:b<B):AcB c b v:=(hb.block b f).trans h
theorem Fs{fn:Func}{p:Tmp}(h:fn.results=#[.cell p 25])(tmps:Array ZC)(w:M)(g:Nat)(v:ZC)(c:tmps.getD p undef=.pointer (T (Q g 0 Y)))(b:AcB w g v):(results fn tmps).run Pg w=.ok (.agg #[v]) w :=
 results_cell_row h tmps w g 25 #[v] (0,0) _ c b underlying25 rfl (show(Pg.info? 25).map (·.size)=T 1 by kernel_rfl)
theorem dy{g cap:Nat}{L:List (List UInt8)}(h:w.ownsRow b 9 1 (Z (T (Q g 0 Y)) n cap) n (cI L))(k:Nat){x:List UInt8}(c:L[k]?=T x):A w (Q g k Y)=T (U ⟨x.toArray⟩):=by have h1:=SH h (g:=g) rfl k (U ⟨x.toArray⟩) (by simp[cI,c]);rwa[addr_add,F6] at h1
theorem jV (L ZQ:List (List UInt8)):cI (L++ZQ)=cI L++cI ZQ:=by simp[cI]
theorem re (w:M)(x y:ZC)(t:TypeId):∀j u,[x,y][j]?=T u->(w.alloc (N #[x,y] t)).cell? (((Q w.heap.size 0 Y):Addr).add j)=T u:=by intro j u b;rw[addr_add,F6];exact jb w _ t w.heap.size j u rfl (by simpa using b)
theorem wL (x:List UInt8):∃(op:Int) (tx:List UInt8) (c:Int) (b:Bool),yu (bA x)=.tuple #[.agg #[J I op,U ⟨tx.toArray⟩,J I c],ZD b]/\FF (bA x)=⟨op,⟨tx.toArray⟩,c⟩/\tx.length<=2000:=by
 cases h:bA x with
 |some i =>
  refine⟨i.1,i.2.1,i.2.2,ZG,rfl,rfl,?_⟩;have h1:=ed (uH h);have h2:aF i.1<=2000:=by unfold aF;split<;>omega
  omega
 |none=>exact⟨0,[],0,ZA,rfl,rfl,E4 _⟩
theorem vq (s:List UInt8):(bc (bR s)).length<=s.length:=by
 have h1:=j4 (bR s);have h2:(bR s).length<=s.length:=by unfold bR;rw[MO,MI];omega
 omega
theorem zE (s:ByteArray)(w:M)(hs:s.size<=300000):Calls Pg 34 #[U s] w λe w'=>Below w.heap.size w w'/\∃a c R,e=ZF (.agg #[Z a R.length c])/\DRow w' (w.heap.size+2) (Z a R.length c) R/\SzD 300001 (R.map (·.1))/\∀E,bC [] (tL (aL s.data.toList)) E->R.map (·.1)=E:=by
 have A0:=ae (((q9 w).alloc ly (N #[Z Y 0 0] 25)).alloc (by simp) (N #[Z Y 0 0] 25));have H:Hid (AcB ((w.alloc (N #[Z Y 0 0] 25)).alloc (N #[Z Y 0 0] 25)) w.heap.size (Z Y 0 0)):=by show _=_;rw[OP _ _ (by simp)];exact n6 w _
 have C0:Hid (AcB ((w.alloc (N #[Z Y 0 0] 25)).alloc (N #[Z Y 0 0] 25)) (w.heap.size+1) (Z Y 0 0)):=SW w _ _;have LC:=ae (λV=>Ai s V (by omega));have LA:=ae (qi s.data.toList.length s.data.toList ly);have hsl:s.data.toList.length=s.size:=aH s;generalize aL s.data.toList=ls at LC LA ⊢;have LM:Hid (∀l∈ls,l.length<=300000):=λl hl=>by have:=(LA.out.1 l hl).2;omega
 have hln:ls.length<=300001:=by have:=LA.out.2;omega
 clear LA;obtain⟨i0,Fd,DQ,Fk,Fm⟩:=kF oL;obtain⟨i1,hi,Ju,Js,Jp⟩:=LY eu;obtain⟨i2,JM,JQ,JO,JL⟩:=LY kU;obtain⟨i3,JD,Jv,JE,Jy⟩:=LY fZ;go_enter func34,ntmps34;go_wp2_with fail;generalize (w.alloc (N #[Z Y 0 0] 25)).alloc (N #[Z Y 0 0] 25)=V0 at A0 H C0 ⊢;have zV:w.heap.size+1<V0.heap.size:=C0.out.lt;refine(LC.out V0).mono ?_;rintro e ZK ⟨g,cap,rfl,hO,_,hB⟩;have AW:=ae (A0.out.trans (hB.mono A0.out.size));have BW:=ae (H.out.aa hB (by omega));have CW:=ae (C0.out.aa hB (by omega));have LO:=ae hO;have zW:V0.heap.size<=ZK.heap.size:=hB.size;have gW:g<ZK.heap.size:=(hO.lt g rfl).2;have I0:Hid (L6I ZK ZK (w.heap.size+1) ZK.heap.size ls 0):=⟨Y,0,[],⟨CW.out,dN _ _,by omega,n8 _⟩,SzD.nil _,λE hE=>hE,KR.refl _ _ _⟩
 clear hB hO A0 H C0 LC CW;go_wp2;go_loopw [5,6,7,8,9] (λiv _ _ _ _ wr=>∃j:Nat,j<=ls.length/\iv=J I j/\Hid (L6I ZK wr (w.heap.size+1) ZK.heap.size ls j)) (λiv _ _ _ _ _=>ls.length - (intOf iv).toNat);case atStart=>exact⟨0,by omega,rfl,I0.out⟩
 case round =>
  obtain⟨j,hj,rfl,HI⟩:=hrel;obtain⟨a,c,R,hA,hZ,hG,m⟩:=HI.out;have O:=ae hA;have SZ:=ae hZ;have SG:=ae hG;have SK:=ae m;have Jq:R.length<=j:=by have:=hZ.1;simpa using this
  have zr:=m.size;have r0:=hA.H.c0;have X:=hA.H.lt;clear hA hZ hG m HI;by_cases JJ:j<ls.length
  ·obtain⟨l,hl⟩:∃l,ls[j]?=T l:=⟨_,gq JJ⟩
   have bt:=ae hl;have hll:=LM.out l (L8 hl);have cl:A wr (Q g j Y)=T (U ⟨l.toArray⟩):=(cq (a:=(Q g j Y)) (SK.out.keep g gW (by have:=(LO.out.lt g rfl).1;omega) (.inl gW))).trans (dy LO.out j hl);have gl:g<wr.heap.size:=by omega
   have hlt2:(j:Int)<ls.length:=by omega
   clear hl;go_upto_block 1 with fail;go_cut [] (λwx=>Hid (L6I ZK wx (w.heap.size+1) ZK.heap.size ls (j+1)));case first =>
    go_wp2_with fail;refine(nW ⟨l.toArray⟩ 3 (by omega) wr (by show l.length<=_;omega)).mono ?_;rintro e L ⟨g1,c1,rfl,th,B,ur⟩;have th:L.ownsRow wr.heap.size 9 1 (Z (T (Q g1 0 Y)) (aO 3 l).length c1) (aO 3 l).length (cI (aO 3 l)):=th;have B:(aO 3 l).length<=4:=B;have H1:=ae ur;have O1:=ae th;have ZQ:=ae (O.out.aa ur);have K1:=ae (SK.out.trans (KR.u ur ly));obtain⟨JU,Jr⟩:=rY 3 (by omega) l;have e0:=dy th 0 (x:=(af 32 l).1) (by rw[Jr];rfl);have p0:(0:Int)<((aO 3 l).length:Int):=by rw[Jr];simp only[eT];omega
    have l1:=(th.lt g1 rfl).2;have g1r:=(th.lt g1 rfl).1;have Bk:=(ur.cell (p:=(Q g j Y)) gl).trans cl;have gl1:g<L.heap.size:=lj gl ur.size;have qr:=ur.size;have hcl:=aS 32 l;have hcl2:=aS 32 (af 32 l).2.1;have hcl3:=aS 32 (af 32 (af 32 l).2.1).2.1;clear th ur r0 X cl Jr JU;have r0:=ZQ.out.H.c0;have r1:=ZQ.out.H.fz;have X:=ZQ.out.H.lt;have LE:=ae (λ(e:l=[])=>show(af 32 l).1=[] by rw[e];rfl);by_cases ld:(af 32 l).1=[115,111,117,114,99,101]
    ·have HW:=ae ld;have NE:Hid (l≠[]):=λe=>by have:=LE.out e;rw[ld] at this;cases this
     rw[ld] at e0;go_wp2_with fail;refine(nW ⟨l.toArray⟩ 2 (by omega) L (by show l.length<=_;omega)).mono ?_;rintro e o ⟨z,c2,rfl,Hx,JA,fd⟩;have Hx:o.ownsRow L.heap.size 9 1 (Z (T (Q z 0 Y)) (aO 2 l).length c2) (aO 2 l).length (cI (aO 2 l)):=Hx;have JA:(aO 2 l).length<=4:=JA;have O2:=ae Hx;have JF:=ae fd;have ZB:=ae fd.size;have zb2:=fd.size;clear Hx fd;go_wp2_with (at_builtin;refine BS _ rfl (.tmp 37) (.tmp 38) 66 rfl L.heap.size 9 i0 (U ⟨#[]⟩) 1 16 IH Fd DQ Fk Fm rfl (by decide) _ (aO 2 l).length (cI (aO 2 l)) (by simp[Act.eval]) (O2.out.alloc _) (Q o.heap.size 0 Y) 2 2 [U ⟨#[]⟩,U ⟨#[]⟩] (by simp[Act.eval]) rfl (re o _ _ _) (by simp[Value.oneCell']) (by unfold maxLen;omega) (by omega) (by simp;omega) ?_);intro v3 ZP b f ZJ;have b:ZP.ownsRow L.heap.size 9 1 v3 ((aO 2 l).length+2) (cI (aO 2 l++[[],[]])):=by rw[jV];exact b
     obtain⟨g3,c3,rfl⟩:=dl b (by omega);have H3:=ae (bg ((eL L.heap.size o).alloc ZB.out _) f (by simp;have:=ZB.out;omega) (λk e=>(O2.out.lt k e).1));have O3:=ae b;have l3:=(b.lt g3 rfl).2;have g3r:=(b.lt g3 rfl).1;obtain⟨GS,S⟩:=r9 l;have y1:=dy b 1 (x:=(af 32 (af 32 l).2.1).1) (by rw[S];rfl);have y2:=dy b 2 (x:=(af 32 (af 32 l).2.1).2.1) (by rw[S];rfl);have q2:(2:Int)<((aO 2 l).length:Int)+2:=by have:=AP List.length S;rw[cM] at this;simp only[eT,nX] at this;omega
     have q1:(1:Int)<((aO 2 l).length:Int)+2:=by omega
     have P:=ae (H1.out.trans ((JF.out.trans H3.out).mono qr));have SL:=ae (O.out.aa P.out);have KL:=ae (SK.out.trans (KR.u P.out ly));clear b f ZJ e0 r0 r1 X Bk P;have r0:=SL.out.H.c0;have r1:=SL.out.H.fz;have X:=SL.out.H.lt;have At:=SL.out.le;have GN:=ae (λG (h:Good (R.map (·.1)) l G)=>Io h HW.out);have Fn:=λV=>jf ⟨(af 32 (af 32 l).2.1).2.1.toArray⟩ V (by show(af 32 (af 32 l).2.1).2.1.length<=_;omega);have UQ:Hid (∀V,Calls Pg 61 #[U ⟨(af 32 (af 32 l).2.1).2.1.toArray⟩] V λe w'=>e=ZF (U ⟨(bc (bR (af 32 (af 32 l).2.1).2.1)).toArray⟩)/\Below V.heap.size V w'):=Fn;have ul:=vq (af 32 (af 32 l).2.1).2.1;clear Fn O2 JF H3 O3;go_upto_region 11 with fail;have ZO:Hid (∀V:M,(∀k,k<ZP.heap.size->T k≠(Value.slice a R.length c).ownBlock->V.heap[k]?=ZP.heap[k]?)->A V (Q (w.heap.size+1) 0 Y)=T (Z a R.length c)/\A V (Q g3 1 Y)=T (U ⟨(af 32 (af 32 l).2.1).1.toArray⟩)/\A V (Q g3 2 Y)=T (U ⟨(af 32 (af 32 l).2.1).2.1.toArray⟩)):=λV F=>⟨(cq (a:=(Q (w.heap.size+1) 0 Y)) (F (w.heap.size+1) X (λe=>by have h1:=(SL.out.row.i.lt _ e.symm).1;have h2:=SL.out.lt;omega))).trans r0,(cq (a:=(Q g3 1 Y)) (F (g3) l3 (λe=>by have h1:=(O.out.row.i.lt _ e.symm).2;omega))).trans y1,(cq (a:=(Q g3 2 Y)) (F (g3) l3 (λe=>by have h1:=(O.out.row.i.lt _ e.symm).2;omega))).trans y2⟩
     have W:=ae (ZO.out ZP.drew (λk ZL _=>rfl));have H:Hid (Below ZP.heap.size ZP ZP.drew):=(eL _ ZP).drew;refine aE (λV=>A V (Q (w.heap.size+1) 0 Y)=T (Z a R.length c)/\A V (Q g3 1 Y)=T (U ⟨(af 32 (af 32 l).2.1).1.toArray⟩)/\A V (Q g3 2 Y)=T (U ⟨(af 32 (af 32 l).2.1).2.1.toArray⟩)) 13 (by as_aux_lemma=>kernel_rfl) ?_;iterate 8
      refine aI 0 (v:=?_) rfl rfl (by as_aux_lemma=>kernel_rfl) (λ_ _ _ h=>h) rfl ?_ W.out ?_;rotate_left
      ·(rintro wz ⟨s0,s1,s2⟩;go_simp)
       (try with_reducible rfl)
      (try simp only[Act.put,nzL])
     refine ag (i:=8) rfl (by as_aux_lemma=>kernel_rfl) λK m=>?_;go_simp;go_at_call 61;refine(UQ.out _).mono ?_;rintro e ZI ⟨rfl,DE⟩;have D5:=ae (H.out.trans (DE.mono H.out.size));have q:=ae (SL.out.aa D5.out);have K5:=ae (KL.out.trans (KR.u D5.out ly));replace H:=D5;replace W:=ae (ZO.out _ (λk ZL _=>D5.out.block k ZL));have JH:=q.out.le;clear DE;refine m.out _ _ (λ_=>W.out) ?_;clear m K
     (try simp only[Act.put,nzL])
     refine aI 9 (v:=?_) rfl rfl (by as_aux_lemma=>kernel_rfl) (λ_ _ _ h=>h) rfl ?_ W.out ?_;rotate_left
     ·(rintro wz ⟨s0,s1,s2⟩;go_simp)
      (try with_reducible rfl)
     (try simp only[Act.put,nzL])
     refine ag (i:=10) rfl (by as_aux_lemma=>kernel_rfl) λK m=>?_;go_simp;have ZM:=ae (H.out.alloc H.out.size (N #[U ⟨(af 32 (af 32 l).2.1).1.toArray⟩,J I 1,J I 0,U ⟨(bc (bR (af 32 (af 32 l).2.1).2.1)).toArray⟩,Z Y 0 0,Z Y 0 0] 62));refine m.out _ _ (λ_=>ZO.out _ (λk ZL _=>ZM.out.block k ZL)) ?_;clear m K
     (try simp only[Act.put,nzL])
     refine ag (i:=11) rfl (by as_aux_lemma=>kernel_rfl) λK m=>?_
     (refine aA rfl (.tmp 41) (.tmp 50) 23 rfl ZK.heap.size 62 i1 (.agg #[U ⟨#[]⟩,J I 0,J I 0,U ⟨#[]⟩,Z Y 0 0,Z Y 0 0]) 6 96 MS hi Ju Js Jp rfl (by decide) (Z a R.length c) R.length (R.flatMap ddV) (by simp[Act.eval]) (by first|exact q.out.row.i.alloc _|exact q.out.row.i.drew.alloc _|exact q.out.row.i.drew.drew.alloc _|exact q.out.row.i.drew.drew.drew.alloc _) (Q ZI.heap.size 0 Y) 1 1 [U ⟨(af 32 (af 32 l).2.1).1.toArray⟩,J I 1,J I 0,U ⟨(bc (bR (af 32 (af 32 l).2.1).2.1)).toArray⟩,Z Y 0 0,Z Y 0 0] (by simp[Act.eval]) rfl (by first|exact cA ZI _ _ _ _ _ _ _|exact cA ZI.drew _ _ _ _ _ _ _|exact cA ZI.drew.drew _ _ _ _ _ _ _|exact cA ZI.drew.drew.drew _ _ _ _ _ _ _) (by simp[Value.oneCell']) (by unfold maxLen;omega) (by omega) (by simp;omega) ?_;intro v6 w6 b f ZR;(first|have t:=ae (q.out.ad (eL _ ZI) b f)|have t:=ae (q.out.ad (eL _ ZI).drew b f)|have t:=ae (q.out.ad (eL _ ZI).drew.drew b f)|have t:=ae (q.out.ad (eL _ ZI).drew.drew.drew b f));obtain⟨a6,c6,rfl⟩:=bK b;have k0:=t.out.2.2.c0;have k1:=t.out.2.2.fz;have k2:=t.out.2.2.lt;have G6:=ae (ZO.out w6 (fS (by first|exact ZM.out|exact ZM.out.drew) f));clear b f ZR)
     refine m.out _ _ (λ_=>G6.out) ?_;clear m K
     (try simp only[Act.put,nzL])
     refine ag (i:=12) rfl (by as_aux_lemma=>kernel_rfl) λK m=>?_;go_simp;refine m.out _ _ (λ_=>G6.out) ?_;clear m K
     (try simp only[Act.put,nzL])
     refine ag (i:=13) rfl (by as_aux_lemma=>kernel_rfl) λK m=>?_;go_simp;refine m.out _ _ (λh=>absurd rfl h) ?_;clear m K
     (try simp only[Act.put,nzL])
     refine aW (by as_aux_lemma=>kernel_rfl) ?_ _;go_simp;go_wp2;go_meet;exact(L6I.next bt.out SG.out (t.out.1.len (by simp)) (by rw[BG];exact SZ.out.new _ _ _ _ (by show(af 32 (af 32 l).2.1).1.toArray.size<=300000;rw[CX];omega) (by show(bc (bR (af 32 (af 32 l).2.1).2.1)).toArray.size<=300000;rw[CX];omega)) (K5.out.trans t.out.2.1) (λe=>absurd e NE.out) (λG h=>by rw[GN.out G h];simp))
    by_cases ph:(af 32 l).1=[110,111,110,101]
    ·have HW:=ae ph;have NE:Hid (l≠[]):=λe=>by have:=LE.out e;rw[ph] at this;cases this
     rw[ph] at e0;have ZB:=ae qr;go_wp2_with (at_builtin;refine BS _ rfl (.tmp 55) (.tmp 56) 66 rfl wr.heap.size 9 i0 (U ⟨#[]⟩) 1 16 IH Fd DQ Fk Fm rfl (by decide) _ (aO 3 l).length (cI (aO 3 l)) (by simp[Act.eval]) (O1.out.alloc _) (Q L.heap.size 0 Y) 1 1 [U ⟨#[]⟩] (by simp[Act.eval]) rfl (ci L _ _) (by simp[Value.oneCell']) (by unfold maxLen;omega) (by omega) (by simp;omega) ?_);intro v2 o b f ZJ;have b:o.ownsRow wr.heap.size 9 1 v2 ((aO 3 l).length+1) (cI (aO 3 l++[[]])):=by rw[jV];exact b
     obtain⟨z,c2,rfl⟩:=dl b (by omega);have H2:=ae (bg ((eL wr.heap.size L).alloc ZB.out _) f (by simp;have:=ZB.out;omega) (λk e=>(O1.out.lt k e).1));have O2:=ae b;have l2:=(b.lt z rfl).2;have Jt:=(b.lt z rfl).1;obtain⟨GS,S⟩:=rZ 3 (by omega) l [];have y1:=dy b 1 (x:=(af 32 (af 32 l).2.1).1) (by rw[S];rfl);have q1:(1:Int)<((aO 3 l).length:Int)+1:=by have:=p0;omega
     have P:=ae (H1.out.trans H2.out);have q:=ae (O.out.aa P.out);have K5:=ae (SK.out.trans (KR.u P.out ly));clear b f ZJ e0 r0 r1 X Bk;have r0:=q.out.H.c0;have r1:=q.out.H.fz;have X:=q.out.H.lt;have At:=q.out.le;have GN:=ae (λG (h:Good (R.map (·.1)) l G)=>Ip h HW.out);go_upto_region 14 with fail;have ZO:Hid (∀V:M,(∀k,k<o.heap.size->T k≠(Value.slice a R.length c).ownBlock->V.heap[k]?=o.heap[k]?)->A V (Q (w.heap.size+1) 0 Y)=T (Z a R.length c)/\A V (Q z 1 Y)=T (U ⟨(af 32 (af 32 l).2.1).1.toArray⟩)):=λV F=>⟨(cq (a:=(Q (w.heap.size+1) 0 Y)) (F (w.heap.size+1) X (λe=>by have h1:=(q.out.row.i.lt _ e.symm).1;have h2:=q.out.lt;omega))).trans r0,(cq (a:=(Q z 1 Y)) (F (z) l2 (λe=>by have h1:=(O.out.row.i.lt _ e.symm).2;omega))).trans y1⟩
     have W:=ae (ZO.out o.drew (λk ZL _=>rfl));have H:Hid (Below o.heap.size o o.drew):=(eL _ o).drew;refine aE (λV=>A V (Q (w.heap.size+1) 0 Y)=T (Z a R.length c)/\A V (Q z 1 Y)=T (U ⟨(af 32 (af 32 l).2.1).1.toArray⟩)) 9 (by as_aux_lemma=>kernel_rfl) ?_;iterate 6
      refine aI 0 (v:=?_) rfl rfl (by as_aux_lemma=>kernel_rfl) (λ_ _ _ h=>h) rfl ?_ W.out ?_;rotate_left
      ·(rintro wz ⟨s0,s1⟩;go_simp)
       (try with_reducible rfl)
      (try simp only[Act.put,nzL])
     refine ag (i:=6) rfl (by as_aux_lemma=>kernel_rfl) λK m=>?_;go_simp;have ZM:=ae (H.out.alloc H.out.size (N #[U ⟨(af 32 (af 32 l).2.1).1.toArray⟩,J I 2,J I 0,U ⟨#[]⟩,Z Y 0 0,Z Y 0 0] 62));refine m.out _ _ (λ_=>ZO.out _ (λk ZL _=>ZM.out.block k ZL)) ?_;clear m K
     (try simp only[Act.put,nzL])
     refine ag (i:=7) rfl (by as_aux_lemma=>kernel_rfl) λK m=>?_
     (refine aA rfl (.tmp 59) (.tmp 64) 23 rfl ZK.heap.size 62 i1 (.agg #[U ⟨#[]⟩,J I 0,J I 0,U ⟨#[]⟩,Z Y 0 0,Z Y 0 0]) 6 96 MS hi Ju Js Jp rfl (by decide) (Z a R.length c) R.length (R.flatMap ddV) (by simp[Act.eval]) (by first|exact q.out.row.i.alloc _|exact q.out.row.i.drew.alloc _|exact q.out.row.i.drew.drew.alloc _|exact q.out.row.i.drew.drew.drew.alloc _) (Q o.heap.size 0 Y) 1 1 [U ⟨(af 32 (af 32 l).2.1).1.toArray⟩,J I 2,J I 0,U ⟨#[]⟩,Z Y 0 0,Z Y 0 0] (by simp[Act.eval]) rfl (by first|exact cA o _ _ _ _ _ _ _|exact cA o.drew _ _ _ _ _ _ _|exact cA o.drew.drew _ _ _ _ _ _ _|exact cA o.drew.drew.drew _ _ _ _ _ _ _) (by simp[Value.oneCell']) (by unfold maxLen;omega) (by omega) (by simp;omega) ?_;intro v6 w6 b f ZR;(first|have t:=ae (q.out.ad (eL _ o) b f)|have t:=ae (q.out.ad (eL _ o).drew b f)|have t:=ae (q.out.ad (eL _ o).drew.drew b f)|have t:=ae (q.out.ad (eL _ o).drew.drew.drew b f));obtain⟨a6,c6,rfl⟩:=bK b;have k0:=t.out.2.2.c0;have k1:=t.out.2.2.fz;have k2:=t.out.2.2.lt;have G6:=ae (ZO.out w6 (fS (by first|exact ZM.out|exact ZM.out.drew) f));clear b f ZR)
     refine m.out _ _ (λ_=>G6.out) ?_;clear m K
     (try simp only[Act.put,nzL])
     refine ag (i:=8) rfl (by as_aux_lemma=>kernel_rfl) λK m=>?_;go_simp;refine m.out _ _ (λ_=>G6.out) ?_;clear m K
     (try simp only[Act.put,nzL])
     refine ag (i:=9) rfl (by as_aux_lemma=>kernel_rfl) λK m=>?_;go_simp;refine m.out _ _ (λh=>absurd rfl h) ?_;clear m K
     (try simp only[Act.put,nzL])
     refine aW (by as_aux_lemma=>kernel_rfl) ?_ _;go_simp;go_wp2;go_meet;exact(L6I.next bt.out SG.out (t.out.1.len (by simp)) (by rw[BG];exact SZ.out.new _ _ _ _ (by show(af 32 (af 32 l).2.1).1.toArray.size<=300000;rw[CX];omega) (by exact E4 _)) (K5.out.trans t.out.2.1) (λe=>absurd e NE.out) (λG h=>by rw[GN.out G h];simp))
    by_cases la:(af 32 l).1=[116,97,114,103,101,116]
    ·have HW:=ae la;have NE:Hid (l≠[]):=λe=>by have:=LE.out e;rw[la] at this;cases this
     rw[la] at e0;have ZB:=ae qr;go_wp2_with (at_builtin;refine BS _ rfl (.tmp 69) (.tmp 70) 66 rfl wr.heap.size 9 i0 (U ⟨#[]⟩) 1 16 IH Fd DQ Fk Fm rfl (by decide) _ (aO 3 l).length (cI (aO 3 l)) (by simp[Act.eval]) (O1.out.alloc _) (Q L.heap.size 0 Y) 3 3 [U ⟨#[]⟩,U ⟨#[]⟩,U ⟨#[]⟩] (by simp[Act.eval]) rfl (fH L _ _ _ _) (by simp[Value.oneCell']) (by unfold maxLen;omega) (by omega) (by simp;omega) ?_);intro v2 o b f ZJ;have b:o.ownsRow wr.heap.size 9 1 v2 ((aO 3 l).length+3) (cI (aO 3 l++[[],[],[]])):=by rw[jV];exact b
     obtain⟨z,c2,rfl⟩:=dl b (by omega);have H2:=ae (bg ((eL wr.heap.size L).alloc ZB.out _) f (by simp;have:=ZB.out;omega) (λk e=>(O1.out.lt k e).1));have O2:=ae b;have l2:=(b.lt z rfl).2;have Jt:=(b.lt z rfl).1;obtain⟨GS,S⟩:=Bt l;have y1:=dy b 1 (x:=(af 32 (af 32 l).2.1).1) (by rw[S];rfl);have y2:=dy b 2 (x:=(af 32 (af 32 (af 32 l).2.1).2.1).1) (by rw[S];rfl);have y3:=dy b 3 (x:=(af 32 (af 32 (af 32 l).2.1).2.1).2.1) (by rw[S];rfl);have q3:(3:Int)<((aO 3 l).length:Int)+3:=by have:=p0;omega
     have q2:(2:Int)<((aO 3 l).length:Int)+3:=by omega
     have q1:(1:Int)<((aO 3 l).length:Int)+3:=by omega
     have P:=ae (H1.out.trans H2.out);have SL:=ae (O.out.aa P.out);have KL:=ae (SK.out.trans (KR.u P.out ly));clear b f ZJ e0 r0 r1 X Bk P;have r0:=SL.out.H.c0;have r1:=SL.out.H.fz;have X:=SL.out.H.lt;have At:=SL.out.le;have GN:=ae (λG (h:Good (R.map (·.1)) l G)=>Iq h HW.out);have Fn:=λV=>jf ⟨(af 32 (af 32 (af 32 l).2.1).2.1).2.1.toArray⟩ V (by show(af 32 (af 32 (af 32 l).2.1).2.1).2.1.length<=_;omega);have UQ:Hid (∀V,Calls Pg 61 #[U ⟨(af 32 (af 32 (af 32 l).2.1).2.1).2.1.toArray⟩] V λe w'=>e=ZF (U ⟨(bc (bR (af 32 (af 32 (af 32 l).2.1).2.1).2.1)).toArray⟩)/\Below V.heap.size V w'):=Fn;have DH:=λV=>jH ⟨(af 32 (af 32 (af 32 l).2.1).2.1).1.toArray⟩ V (by show(af 32 (af 32 (af 32 l).2.1).2.1).1.length<=_;omega);have NU:Hid (∀V,Calls Pg 62 #[U ⟨(af 32 (af 32 (af 32 l).2.1).2.1).1.toArray⟩] V λe w'=>e=ZF (J I (bP 0 ((af 32 (af 32 (af 32 l).2.1).2.1).1.take 6)))/\w'=V):=DH;have ul:=vq (af 32 (af 32 (af 32 l).2.1).2.1).2.1;clear Fn DH H2 O2;go_upto_region 17 with fail;have ZO:Hid (∀V:M,(∀k,k<o.heap.size->T k≠(Value.slice a R.length c).ownBlock->V.heap[k]?=o.heap[k]?)->A V (Q (w.heap.size+1) 0 Y)=T (Z a R.length c)/\A V (Q z 1 Y)=T (U ⟨(af 32 (af 32 l).2.1).1.toArray⟩)/\A V (Q z 2 Y)=T (U ⟨(af 32 (af 32 (af 32 l).2.1).2.1).1.toArray⟩)/\A V (Q z 3 Y)=T (U ⟨(af 32 (af 32 (af 32 l).2.1).2.1).2.1.toArray⟩)):=λV F=>⟨(cq (a:=(Q (w.heap.size+1) 0 Y)) (F (w.heap.size+1) X (λe=>by have h1:=(SL.out.row.i.lt _ e.symm).1;have h2:=SL.out.lt;omega))).trans r0,(cq (a:=(Q z 1 Y)) (F (z) l2 (λe=>by have h1:=(O.out.row.i.lt _ e.symm).2;omega))).trans y1,(cq (a:=(Q z 2 Y)) (F (z) l2 (λe=>by have h1:=(O.out.row.i.lt _ e.symm).2;omega))).trans y2,(cq (a:=(Q z 3 Y)) (F (z) l2 (λe=>by have h1:=(O.out.row.i.lt _ e.symm).2;omega))).trans y3⟩
     have W:=ae (ZO.out o.drew (λk ZL _=>rfl));have H:Hid (Below o.heap.size o o.drew):=(eL _ o).drew;refine aE (λV=>A V (Q (w.heap.size+1) 0 Y)=T (Z a R.length c)/\A V (Q z 1 Y)=T (U ⟨(af 32 (af 32 l).2.1).1.toArray⟩)/\A V (Q z 2 Y)=T (U ⟨(af 32 (af 32 (af 32 l).2.1).2.1).1.toArray⟩)/\A V (Q z 3 Y)=T (U ⟨(af 32 (af 32 (af 32 l).2.1).2.1).2.1.toArray⟩)) 17 (by as_aux_lemma=>kernel_rfl) ?_;iterate 8
      refine aI 0 (v:=?_) rfl rfl (by as_aux_lemma=>kernel_rfl) (λ_ _ _ h=>h) rfl ?_ W.out ?_;rotate_left
      ·(rintro wz ⟨s0,s1,s2,s3⟩;go_simp)
       (try with_reducible rfl)
      (try simp only[Act.put,nzL])
     iterate 3
      refine aI 9 (v:=?_) rfl rfl (by as_aux_lemma=>kernel_rfl) (λ_ _ _ h=>h) rfl ?_ W.out ?_;rotate_left
      ·(rintro wz ⟨s0,s1,s2,s3⟩;go_simp)
       (try with_reducible rfl)
      (try simp only[Act.put,nzL])
     refine ag (i:=8) rfl (by as_aux_lemma=>kernel_rfl) λK m=>?_;go_simp;go_at_call 62;refine(NU.out _).mono ?_;rintro e wN ⟨rfl,rfl⟩;refine m.out _ _ (λ_=>W.out) ?_;clear m K
     (try simp only[Act.put,nzL])
     refine ag (i:=12) rfl (by as_aux_lemma=>kernel_rfl) λK m=>?_;go_simp;go_at_call 61;refine(UQ.out _).mono ?_;rintro e ZI ⟨rfl,DE⟩;have D5:=ae (H.out.trans (DE.mono H.out.size));have q:=ae (SL.out.aa D5.out);have K5:=ae (KL.out.trans (KR.u D5.out ly));replace H:=D5;replace W:=ae (ZO.out _ (λk ZL _=>D5.out.block k ZL));have JH:=q.out.le;clear DE;refine m.out _ _ (λ_=>W.out) ?_;clear m K
     (try simp only[Act.put,nzL])
     refine aI 13 (v:=?_) rfl rfl (by as_aux_lemma=>kernel_rfl) (λ_ _ _ h=>h) rfl ?_ W.out ?_;rotate_left
     ·(rintro wz ⟨s0,s1,s2,s3⟩;go_simp)
      (try with_reducible rfl)
     (try simp only[Act.put,nzL])
     refine ag (i:=14) rfl (by as_aux_lemma=>kernel_rfl) λK m=>?_;go_simp;have ZM:=ae (H.out.alloc H.out.size (N #[U ⟨(af 32 (af 32 l).2.1).1.toArray⟩,J I 3,J I (bP 0 ((af 32 (af 32 (af 32 l).2.1).2.1).1.take 6)),U ⟨(bc (bR (af 32 (af 32 (af 32 l).2.1).2.1).2.1)).toArray⟩,Z Y 0 0,Z Y 0 0] 62));refine m.out _ _ (λ_=>ZO.out _ (λk ZL _=>ZM.out.block k ZL)) ?_;clear m K
     (try simp only[Act.put,nzL])
     refine ag (i:=15) rfl (by as_aux_lemma=>kernel_rfl) λK m=>?_
     (refine aA rfl (.tmp 73) (.tmp 86) 23 rfl ZK.heap.size 62 i1 (.agg #[U ⟨#[]⟩,J I 0,J I 0,U ⟨#[]⟩,Z Y 0 0,Z Y 0 0]) 6 96 MS hi Ju Js Jp rfl (by decide) (Z a R.length c) R.length (R.flatMap ddV) (by simp[Act.eval]) (by first|exact q.out.row.i.alloc _|exact q.out.row.i.drew.alloc _|exact q.out.row.i.drew.drew.alloc _|exact q.out.row.i.drew.drew.drew.alloc _) (Q ZI.heap.size 0 Y) 1 1 [U ⟨(af 32 (af 32 l).2.1).1.toArray⟩,J I 3,J I (bP 0 ((af 32 (af 32 (af 32 l).2.1).2.1).1.take 6)),U ⟨(bc (bR (af 32 (af 32 (af 32 l).2.1).2.1).2.1)).toArray⟩,Z Y 0 0,Z Y 0 0] (by simp[Act.eval]) rfl (by first|exact cA ZI _ _ _ _ _ _ _|exact cA ZI.drew _ _ _ _ _ _ _|exact cA ZI.drew.drew _ _ _ _ _ _ _|exact cA ZI.drew.drew.drew _ _ _ _ _ _ _) (by simp[Value.oneCell']) (by unfold maxLen;omega) (by omega) (by simp;omega) ?_;intro v6 w6 b f ZR;(first|have t:=ae (q.out.ad (eL _ ZI) b f)|have t:=ae (q.out.ad (eL _ ZI).drew b f)|have t:=ae (q.out.ad (eL _ ZI).drew.drew b f)|have t:=ae (q.out.ad (eL _ ZI).drew.drew.drew b f));obtain⟨a6,c6,rfl⟩:=bK b;have k0:=t.out.2.2.c0;have k1:=t.out.2.2.fz;have k2:=t.out.2.2.lt;have G6:=ae (ZO.out w6 (fS (by first|exact ZM.out|exact ZM.out.drew) f));clear b f ZR)
     refine m.out _ _ (λ_=>G6.out) ?_;clear m K
     (try simp only[Act.put,nzL])
     refine ag (i:=16) rfl (by as_aux_lemma=>kernel_rfl) λK m=>?_;go_simp;refine m.out _ _ (λ_=>G6.out) ?_;clear m K
     (try simp only[Act.put,nzL])
     refine ag (i:=17) rfl (by as_aux_lemma=>kernel_rfl) λK m=>?_;go_simp;refine m.out _ _ (λh=>absurd rfl h) ?_;clear m K
     (try simp only[Act.put,nzL])
     refine aW (by as_aux_lemma=>kernel_rfl) ?_ _;go_simp;go_wp2;go_meet;exact(L6I.next bt.out SG.out (t.out.1.len (by simp)) (by rw[BG];exact SZ.out.new _ _ _ _ (by show(af 32 (af 32 l).2.1).1.toArray.size<=300000;rw[CX];omega) (by show(bc (bR (af 32 (af 32 (af 32 l).2.1).2.1).2.1)).toArray.size<=300000;rw[CX];omega)) (K5.out.trans t.out.2.1) (λe=>absurd e NE.out) (λG h=>by rw[GN.out G h];simp))
    by_cases sm:(af 32 l).1=[100,111]
    ·as_aux_lemma =>
      have HW:=ae sm;have NE:Hid (l≠[]):=λe=>by have:=LE.out e;rw[sm] at this;cases this
      rw[sm] at e0;rcases fy R with rfl|⟨y,r,rfl⟩
      {have GN:Hid (∀G,¬ Good (List.map (·.1) ([]:List DR)) l G):=λG h=>(by obtain⟨D0,d,h1,_⟩:=FG h HW.out;simp at h1);go_wp2;go_meet;exact(L6I.next bt.out SG.out ZQ.out (SZ.out.up (F3 _)) K1.out (λ_=>rfl) (λG h=>absurd h (GN.out G)))}
      ·have B:(y++[r]).length=y.length+1:=by simp
       have GN:=ae (λG (h:Good (List.map (·.1) (y++[r])) l G)=>FG h HW.out);have hr:=SZ.out.2 r.1 (by simp);have Jw:=hr.a;have Jz:=hr.l;obtain⟨C,cd,DS⟩:=bV ZQ.out.row.i (by rw[B];omega);cases DS
       rw[B] at r0 Jq;try rw[B]
       have ek:((y.length+1:Nat):Int) - 1=(y.length:Int):=by omega
       have JC:(y.length:Int)+1 - 1=(y.length:Int):=by omega
       have k5:(0:Int)<=(y.length:Int):=by omega
       have k6:(y.length:Int)<(y.length:Int)+1:=by omega
       clear hr;by_cases h3:3<l.length
       ·have JR:(3:Int)<(l.length:Int):=by omega
        have h3j:(3:Int)<=(l.length:Int):=by omega
        have ex:(⟨l.toArray⟩:ByteArray).extract 3 l.length=⟨(l.drop 3).toArray⟩:=by refine MP (PE ?_);simp only[NR,OQ,NN];rw[KK (by simp)]
        have JG:=yw ⟨(l.drop 3).toArray⟩ L (by show(l.drop 3).length<=_;rw[MI];omega);have RD:Hid (Calls Pg 63 #[U ⟨(l.drop 3).toArray⟩] L λe w'=>e=ZF (yu (bA (l.drop 3)))/\Below L.heap.size L w'):=JG;obtain⟨op,tx,nn,okb,hv,Id,JB⟩:=wL (l.drop 3);rw[hv] at RD;have JP:=ae Id;have JB:tx.length<=2000:=JB;clear JG hv Id;go_wp2_with fail;refine RD.out.mono ?_;rintro e o ⟨rfl,fd⟩;have P:=ae ((H1.out.trans (fd.mono qr)).alloc (p9 qr fd.size) (N #[J I op,U ⟨tx.toArray⟩,J I nn] 90));have CK:Hid (CI (o.alloc (N #[J I op,U ⟨tx.toArray⟩,J I nn] 90)) o.heap.size (J I op) (U ⟨tx.toArray⟩) (J I nn)):=n6 o _;have JT:wr.heap.size<=o.heap.size:=p9 qr fd.size;clear fd RD;go_upto_region 21 with fail;generalize o.alloc (N #[J I op,U ⟨tx.toArray⟩,J I nn] 90)=ZP at P CK ⊢;generalize o.heap.size=iB at CK JT ⊢;have q:Hid (ASt ZP (w.heap.size+1) ZK.heap.size (Z (T (Q C 0 Y)) (y.length+1) c) (y++[r])):=by have:=O.out.aa P.out;rw[B] at this;exact this
        have K5:=ae (SK.out.trans (KR.u P.out ly));clear e0 r0 r1 X Bk P ex;have c0:=CK.out.c0;have JK:=CK.out.c1;have JS:=CK.out.c2;have cz:=CK.out.lt;have r0:=q.out.H.c0;have r1:=q.out.H.fz;have X:=q.out.H.lt;have cell:=cD (by rw[B];have:=q.out.row.i;rw[B] at this;exact this) (i:=y.length) (r:=r) (by simp) 4 (by omega) (u:=r.2.1) rfl;have m0:=cell.1;have ro:=(q.out.row.i.lt C rfl).2;have At:=q.out.le;have ZN:=ae (q.out.row.sub r (by simp)).G;obtain⟨av,cv,aq⟩:=bK ZN.out;have dg:=ae aq;rw[aq] at m0;clear cell aq;have ZO:Hid (∀V:M,(∀k,k<ZP.heap.size->T k≠r.2.1.ownBlock->V.heap[k]?=ZP.heap[k]?)->A V (Q (w.heap.size+1) 0 Y)=T (Z (T (Q C 0 Y)) (y.length+1) c)/\A V (Q C (y.length*6+4) Y)=T (Z av r.1.f cv)/\A V (Q iB 0 Y)=T (J I op)/\A V (Q iB 1 Y)=T (U ⟨tx.toArray⟩)/\A V (Q iB 2 Y)=T (J I nn)):=λV F=>⟨(cq (a:=(Q (w.heap.size+1) 0 Y)) (F (w.heap.size+1) X (λe=>by have h1:=(ZN.out.lt _ e.symm).1;have h2:=q.out.lt;omega))).trans r0,(cq (a:=(Q C (y.length*6+4) Y)) (F (C) ro (λe=>(bq q.out.row.i C rfl).ne (by decide) (bq ZN.out C e.symm)))).trans m0,(cq (a:=(Q iB 0 Y)) (F (iB) cz (λe=>by have h1:=((O.out.row.sub r (by simp)).G.lt _ e.symm).2;omega))).trans c0,(cq (a:=(Q iB 1 Y)) (F (iB) cz (λe=>by have h1:=((O.out.row.sub r (by simp)).G.lt _ e.symm).2;omega))).trans JK,(cq (a:=(Q iB 2 Y)) (F (iB) cz (λe=>by have h1:=((O.out.row.sub r (by simp)).G.lt _ e.symm).2;omega))).trans JS⟩
        have W:=ae (ZO.out ZP.drew (λk ZL _=>rfl));have H:Hid (Below ZP.heap.size ZP ZP.drew):=(eL _ ZP).drew;refine aE (λV=>A V (Q (w.heap.size+1) 0 Y)=T (Z (T (Q C 0 Y)) (y.length+1) c)/\A V (Q C (y.length*6+4) Y)=T (Z av r.1.f cv)/\A V (Q iB 0 Y)=T (J I op)/\A V (Q iB 1 Y)=T (U ⟨tx.toArray⟩)/\A V (Q iB 2 Y)=T (J I nn)) 16 (by as_aux_lemma=>kernel_rfl) ?_;iterate 11
         refine aI 0 (v:=?_) rfl rfl (by as_aux_lemma=>kernel_rfl) (λ_ _ _ h=>h) rfl ?_ W.out ?_;rotate_left
         ·(rintro wz ⟨s0,s1,s2,s3,s4⟩;go_simp)
          (try with_reducible rfl)
         (try simp only[Act.put,nzL])
        refine ag (i:=11) rfl (by as_aux_lemma=>kernel_rfl) λK m=>?_;go_simp;have ZM:=ae (H.out.alloc H.out.size (N #[J I op,U ⟨tx.toArray⟩,J I nn] 90));refine m.out _ _ (λ_=>ZO.out _ (λk ZL _=>ZM.out.block k ZL)) ?_;clear m K
        (try simp only[Act.put,nzL])
        refine ag (i:=12) rfl (by as_aux_lemma=>kernel_rfl) λK m=>?_
        (refine aA rfl (.tmp 119) (.tmp 121) 57 rfl ZK.heap.size 90 i2 (.agg #[J I 0,U ⟨#[]⟩,J I 0]) 3 32 PU JM JQ JO JL rfl (by decide) (Z av r.1.f cv) r.1.f (bH r.1.G r.1.f) (by simp[Act.eval]) (by rw[<-dg.out];first|exact ZN.out.alloc _|exact ZN.out.drew.alloc _|exact ZN.out.drew.drew.alloc _|exact ZN.out.drew.drew.drew.alloc _) (Q ZP.heap.size 0 Y) 1 1 [J I op,U ⟨tx.toArray⟩,J I nn] (by simp[Act.eval]) rfl (by first|exact fH ZP _ _ _ _|exact fH ZP.drew _ _ _ _|exact fH ZP.drew.drew _ _ _ _|exact fH ZP.drew.drew.drew _ _ _ _) (by simp[Value.oneCell']) (by unfold maxLen;omega) (by omega) (by simp;omega) ?_;intro v6 w6 b f ZR;rw[<-dg.out] at f ZR;(first|have t:=ae (q.out.moreA (x:=⟨op,⟨tx.toArray⟩,nn⟩) (eL _ ZP) b f ZR)|have t:=ae (q.out.moreA (x:=⟨op,⟨tx.toArray⟩,nn⟩) (eL _ ZP).drew b f ZR)|have t:=ae (q.out.moreA (x:=⟨op,⟨tx.toArray⟩,nn⟩) (eL _ ZP).drew.drew b f ZR)|have t:=ae (q.out.moreA (x:=⟨op,⟨tx.toArray⟩,nn⟩) (eL _ ZP).drew.drew.drew b f ZR));obtain⟨a6,c6,rfl⟩:=bK b;have k0:=t.out.2.2.1;have k1:=t.out.2.2.2.1;have k2:=t.out.2.2.2.2.1;have k3:=t.out.2.2.2.2.2.c0;have k4:=t.out.2.2.2.2.2.lt;rw[dg.out] at k0;have G6:=ae (ZO.out w6 (fS (by first|exact ZM.out|exact ZM.out.drew) f));clear b f ZR)
        refine m.out _ _ (λ_=>G6.out) ?_;clear m K
        (try simp only[Act.put,nzL])
        iterate 3
         refine cB 13 rfl rfl (by as_aux_lemma=>kernel_rfl) λK m=>?_;go_simp;refine m.out _ _ (λ_=>G6.out) ?_;clear m K
         (try simp only[Act.put,nzL])
        refine ag (i:=16) rfl (by as_aux_lemma=>kernel_rfl) λK m=>?_;go_simp;refine m.out _ _ (λh=>absurd rfl h) ?_;clear m K
        (try simp only[Act.put,nzL])
        refine aW (by as_aux_lemma=>kernel_rfl) ?_ _;go_simp;go_wp2;go_meet
        exact(L6I.next bt.out SG.out (t.out.1.len (by simp)) (by have hz:=SZ.out;rw[BG,MX,MZ] at hz ⊢;exact hz.doA _ (by show tx.toArray.size<=300000;rw[CX];omega)) (K5.out.trans t.out.2.1) (λe=>absurd e NE.out) (λG h=>by
           obtain⟨D0,d,h1,_,h4⟩:=GN.out G h;rw[BG,MX,MZ] at h1 ⊢;obtain⟨rfl,h5⟩:=PQ h1 rfl;cases h5
           rw[h4,JP.out]))
       ·have JR:¬ (3:Int)<(l.length:Int):=by omega
        have S9:Hid (ASt L (w.heap.size+1) ZK.heap.size (Z (T (Q C 0 Y)) (y++[r]).length c) (y++[r])):=ZQ.out;go_wp2;go_meet;exact(L6I.next bt.out SG.out S9.out (SZ.out.up (F3 _)) K1.out (λ_=>rfl) (λG h=>by obtain⟨_,_,_,h4,_⟩:=GN.out G h;exact absurd h4 h3))
    by_cases mv:(af 32 l).1=[97,115,107]
    ·as_aux_lemma =>
      have HW:=ae mv;have NE:Hid (l≠[]):=λe=>by have:=LE.out e;rw[mv] at this;cases this
      rw[mv] at e0;have ZB:=ae qr;go_wp2_with (at_builtin;refine BS _ rfl (.tmp 128) (.tmp 129) 66 rfl wr.heap.size 9 i0 (U ⟨#[]⟩) 1 16 IH Fd DQ Fk Fm rfl (by decide) _ (aO 3 l).length (cI (aO 3 l)) (by simp[Act.eval]) (O1.out.alloc _) (Q L.heap.size 0 Y) 2 2 [U ⟨#[]⟩,U ⟨#[]⟩] (by simp[Act.eval]) rfl (re L _ _ _) (by simp[Value.oneCell']) (by unfold maxLen;omega) (by omega) (by simp;omega) ?_);intro v2 o b f ZJ;have b:o.ownsRow wr.heap.size 9 1 v2 ((aO 3 l).length+2) (cI (aO 3 l++[[],[]])):=by rw[jV];exact b
      obtain⟨z,c2,rfl⟩:=dl b (by omega);have H2:=ae (bg ((eL wr.heap.size L).alloc ZB.out _) f (by simp;have:=ZB.out;omega) (λk e=>(O1.out.lt k e).1));have O2:=ae b;have l2:=(b.lt z rfl).2;have Jt:=(b.lt z rfl).1;obtain⟨GS,S⟩:=og l [];have y1:=dy b 1 (x:=(af 32 (af 32 l).2.1).1) (by rw[S];rfl);have y2:=dy b 2 (x:=(af 32 (af 32 (af 32 l).2.1).2.1).1) (by rw[S];rfl);have q2:(2:Int)<((aO 3 l).length:Int)+2:=by have:=p0;omega
      have q1:(1:Int)<((aO 3 l).length:Int)+2:=by omega
      have P:=ae (H1.out.trans H2.out);have ZQ:=ae (O.out.aa P.out);have K1:=ae (SK.out.trans (KR.u P.out ly));have JI:=aS 32 (af 32 (af 32 l).2.1).2.1;clear b f ZJ e0 r0 r1 X Bk P H2 O2;have r0:=ZQ.out.H.c0;have r1:=ZQ.out.H.fz;have X:=ZQ.out.H.lt;have At:=ZQ.out.le;have DH:=λV=>jH ⟨(af 32 (af 32 (af 32 l).2.1).2.1).1.toArray⟩ V (by show(af 32 (af 32 (af 32 l).2.1).2.1).1.length<=_;omega);have NU:Hid (∀V,Calls Pg 62 #[U ⟨(af 32 (af 32 (af 32 l).2.1).2.1).1.toArray⟩] V λe w'=>e=ZF (J I (bP 0 ((af 32 (af 32 (af 32 l).2.1).2.1).1.take 6)))/\w'=V):=DH;clear DH;rcases fy R with rfl|⟨y,r,rfl⟩
      {have GN:Hid (∀G,¬ Good (List.map (·.1) ([]:List DR)) l G):=λG h=>(by obtain⟨D0,d,h1,_⟩:=Bu h HW.out;simp at h1);go_wp2;go_meet;exact(L6I.next bt.out SG.out ZQ.out (SZ.out.up (F3 _)) K1.out (λ_=>rfl) (λG h=>absurd h (GN.out G)))}
      ·have B:(y++[r]).length=y.length+1:=by simp
       have GN:=ae (λG (h:Good (List.map (·.1) (y++[r])) l G)=>Bu h HW.out);have hr:=SZ.out.2 r.1 (by simp);have Jw:=hr.a;have Jz:=hr.l;obtain⟨C,cd,DS⟩:=bV ZQ.out.row.i (by rw[B];omega);cases DS
       rw[B] at r0 Jq;try rw[B]
       have ek:((y.length+1:Nat):Int) - 1=(y.length:Int):=by omega
       have JC:(y.length:Int)+1 - 1=(y.length:Int):=by omega
       have k5:(0:Int)<=(y.length:Int):=by omega
       have k6:(y.length:Int)<(y.length:Int)+1:=by omega
       clear hr;go_upto_region 25 with fail;have q:Hid (ASt o (w.heap.size+1) ZK.heap.size (Z (T (Q C 0 Y)) (y.length+1) c) (y++[r])):=by have:=ZQ.out;rw[B] at this;exact this
       have K5:=K1;have cell:=cD (by rw[B];have:=q.out.row.i;rw[B] at this;exact this) (i:=y.length) (r:=r) (by simp) 5 (by omega) (u:=r.2.2) rfl;have m0:=cell.1;have ro:=(q.out.row.i.lt C rfl).2;have At:=q.out.le;have ZN:=ae (q.out.row.sub r (by simp)).V;obtain⟨av,cv,aq⟩:=bK ZN.out;have dg:=ae aq;rw[aq] at m0;clear cell aq;have ZO:Hid (∀V:M,(∀k,k<o.heap.size->T k≠r.2.2.ownBlock->V.heap[k]?=o.heap[k]?)->A V (Q (w.heap.size+1) 0 Y)=T (Z (T (Q C 0 Y)) (y.length+1) c)/\A V (Q C (y.length*6+5) Y)=T (Z av r.1.b cv)/\A V (Q z 1 Y)=T (U ⟨(af 32 (af 32 l).2.1).1.toArray⟩)/\A V (Q z 2 Y)=T (U ⟨(af 32 (af 32 (af 32 l).2.1).2.1).1.toArray⟩)):=λV F=>⟨(cq (a:=(Q (w.heap.size+1) 0 Y)) (F (w.heap.size+1) X (λe=>by have h1:=(ZN.out.lt _ e.symm).1;have h2:=q.out.lt;omega))).trans r0,(cq (a:=(Q C (y.length*6+5) Y)) (F (C) ro (λe=>(bq q.out.row.i C rfl).ne (by decide) (bq ZN.out C e.symm)))).trans m0,(cq (a:=(Q z 1 Y)) (F (z) l2 (λe=>by have h1:=((O.out.row.sub r (by simp)).V.lt _ e.symm).2;omega))).trans y1,(cq (a:=(Q z 2 Y)) (F (z) l2 (λe=>by have h1:=((O.out.row.sub r (by simp)).V.lt _ e.symm).2;omega))).trans y2⟩
       have W:=ae (ZO.out o.drew (λk ZL _=>rfl));have H:Hid (Below o.heap.size o o.drew):=(eL _ o).drew;refine aE (λV=>A V (Q (w.heap.size+1) 0 Y)=T (Z (T (Q C 0 Y)) (y.length+1) c)/\A V (Q C (y.length*6+5) Y)=T (Z av r.1.b cv)/\A V (Q z 1 Y)=T (U ⟨(af 32 (af 32 l).2.1).1.toArray⟩)/\A V (Q z 2 Y)=T (U ⟨(af 32 (af 32 (af 32 l).2.1).2.1).1.toArray⟩)) 21 (by as_aux_lemma=>kernel_rfl) ?_;iterate 15
        refine aI 0 (v:=?_) rfl rfl (by as_aux_lemma=>kernel_rfl) (λ_ _ _ h=>h) rfl ?_ W.out ?_;rotate_left
        ·(rintro wz ⟨s0,s1,s2,s3⟩;go_simp)
         (try with_reducible rfl)
        (try simp only[Act.put,nzL])
       refine ag (i:=15) rfl (by as_aux_lemma=>kernel_rfl) λK m=>?_;go_simp;go_at_call 62;refine(NU.out _).mono ?_;rintro e wN ⟨rfl,rfl⟩;refine m.out _ _ (λ_=>W.out) ?_;clear m K
       (try simp only[Act.put,nzL])
       refine aI 16 (v:=?_) rfl rfl (by as_aux_lemma=>kernel_rfl) (λ_ _ _ h=>h) rfl ?_ W.out ?_;rotate_left
       ·(rintro wz ⟨s0,s1,s2,s3⟩;go_simp)
        (try with_reducible rfl)
       (try simp only[Act.put,nzL])
       refine ag (i:=17) rfl (by as_aux_lemma=>kernel_rfl) λK m=>?_;go_simp;have ZM:=ae (H.out.alloc H.out.size (N #[U ⟨(af 32 (af 32 l).2.1).1.toArray⟩,ZD ZG,ZD ZA,J I (bP 0 ((af 32 (af 32 (af 32 l).2.1).2.1).1.take 6))] 93));refine m.out _ _ (λ_=>ZO.out _ (λk ZL _=>ZM.out.block k ZL)) ?_;clear m K
       (try simp only[Act.put,nzL])
       refine ag (i:=18) rfl (by as_aux_lemma=>kernel_rfl) λK m=>?_
       (refine aA rfl (.tmp 141) (.tmp 150) 60 rfl ZK.heap.size 93 i3 (.agg #[U ⟨#[]⟩,ZD ZA,ZD ZA,J I 0]) 4 32 ON JD Jv JE Jy rfl (by decide) (Z av r.1.b cv) r.1.b (bo r.1.m r.1.b) (by simp[Act.eval]) (by rw[<-dg.out];first|exact ZN.out.alloc _|exact ZN.out.drew.alloc _|exact ZN.out.drew.drew.alloc _|exact ZN.out.drew.drew.drew.alloc _) (Q o.heap.size 0 Y) 1 1 [U ⟨(af 32 (af 32 l).2.1).1.toArray⟩,ZD ZG,ZD ZA,J I (bP 0 ((af 32 (af 32 (af 32 l).2.1).2.1).1.take 6))] (by simp[Act.eval]) rfl (by first|exact dn o _ _ _ _ _|exact dn o.drew _ _ _ _ _|exact dn o.drew.drew _ _ _ _ _|exact dn o.drew.drew.drew _ _ _ _ _) (by simp[Value.oneCell']) (by unfold maxLen;omega) (by omega) (by simp;omega) ?_;intro v6 w6 b f ZR;rw[<-dg.out] at f ZR;(first|have t:=ae (q.out.moreL (x:=⟨⟨(af 32 (af 32 l).2.1).1.toArray⟩,ZG,ZA,bP 0 ((af 32 (af 32 (af 32 l).2.1).2.1).1.take 6)⟩) (eL _ o) b f ZR)|have t:=ae (q.out.moreL (x:=⟨⟨(af 32 (af 32 l).2.1).1.toArray⟩,ZG,ZA,bP 0 ((af 32 (af 32 (af 32 l).2.1).2.1).1.take 6)⟩) (eL _ o).drew b f ZR)|have t:=ae (q.out.moreL (x:=⟨⟨(af 32 (af 32 l).2.1).1.toArray⟩,ZG,ZA,bP 0 ((af 32 (af 32 (af 32 l).2.1).2.1).1.take 6)⟩) (eL _ o).drew.drew b f ZR)|have t:=ae (q.out.moreL (x:=⟨⟨(af 32 (af 32 l).2.1).1.toArray⟩,ZG,ZA,bP 0 ((af 32 (af 32 (af 32 l).2.1).2.1).1.take 6)⟩) (eL _ o).drew.drew.drew b f ZR));obtain⟨a6,c6,rfl⟩:=bK b;have k0:=t.out.2.2.1;have k1:=t.out.2.2.2.1;have k2:=t.out.2.2.2.2.1;have k3:=t.out.2.2.2.2.2.c0;have k4:=t.out.2.2.2.2.2.lt;rw[dg.out] at k0;have G6:=ae (ZO.out w6 (fS (by first|exact ZM.out|exact ZM.out.drew) f));clear b f ZR)
       refine m.out _ _ (λ_=>G6.out) ?_;clear m K
       (try simp only[Act.put,nzL])
       iterate 2
        refine cB 19 rfl rfl (by as_aux_lemma=>kernel_rfl) λK m=>?_;go_simp;refine m.out _ _ (λ_=>G6.out) ?_;clear m K
        (try simp only[Act.put,nzL])
       refine ag (i:=21) rfl (by as_aux_lemma=>kernel_rfl) λK m=>?_;go_simp;refine m.out _ _ (λh=>absurd rfl h) ?_;clear m K
       (try simp only[Act.put,nzL])
       refine aW (by as_aux_lemma=>kernel_rfl) ?_ _;go_simp;go_wp2;go_meet
       exact(L6I.next bt.out SG.out (t.out.1.len (by simp)) (by have hz:=SZ.out;rw[BG,MX,MZ] at hz ⊢;exact hz.lkA _ (by show(af 32 (af 32 l).2.1).1.toArray.size<=300000;rw[CX];omega)) (K5.out.trans t.out.2.1) (λe=>absurd e NE.out) (λG h=>by
         obtain⟨D0,d,h1,h4⟩:=GN.out G h;rw[BG,MX,MZ] at h1 ⊢;obtain⟨rfl,h5⟩:=PQ h1 rfl;cases h5
         rw[h4]))
    by_cases n9:(af 32 l).1=[104,97,115]
    ·as_aux_lemma =>
      have HW:=ae n9;have NE:Hid (l≠[]):=λe=>by have:=LE.out e;rw[n9] at this;cases this
      rw[n9] at e0;have ZB:=ae qr;go_wp2_with (at_builtin;refine BS _ rfl (.tmp 156) (.tmp 157) 66 rfl wr.heap.size 9 i0 (U ⟨#[]⟩) 1 16 IH Fd DQ Fk Fm rfl (by decide) _ (aO 3 l).length (cI (aO 3 l)) (by simp[Act.eval]) (O1.out.alloc _) (Q L.heap.size 0 Y) 2 2 [U ⟨#[]⟩,U ⟨#[]⟩] (by simp[Act.eval]) rfl (re L _ _ _) (by simp[Value.oneCell']) (by unfold maxLen;omega) (by omega) (by simp;omega) ?_);intro v2 o b f ZJ;have b:o.ownsRow wr.heap.size 9 1 v2 ((aO 3 l).length+2) (cI (aO 3 l++[[],[]])):=by rw[jV];exact b
      obtain⟨z,c2,rfl⟩:=dl b (by omega);have H2:=ae (bg ((eL wr.heap.size L).alloc ZB.out _) f (by simp;have:=ZB.out;omega) (λk e=>(O1.out.lt k e).1));have O2:=ae b;have l2:=(b.lt z rfl).2;have Jt:=(b.lt z rfl).1;obtain⟨GS,S⟩:=og l [];have y1:=dy b 1 (x:=(af 32 (af 32 l).2.1).1) (by rw[S];rfl);have y2:=dy b 2 (x:=(af 32 (af 32 (af 32 l).2.1).2.1).1) (by rw[S];rfl);have q2:(2:Int)<((aO 3 l).length:Int)+2:=by have:=p0;omega
      have q1:(1:Int)<((aO 3 l).length:Int)+2:=by omega
      have P:=ae (H1.out.trans H2.out);have ZQ:=ae (O.out.aa P.out);have K1:=ae (SK.out.trans (KR.u P.out ly));have JI:=aS 32 (af 32 (af 32 l).2.1).2.1;clear b f ZJ e0 r0 r1 X Bk P H2 O2;have r0:=ZQ.out.H.c0;have r1:=ZQ.out.H.fz;have X:=ZQ.out.H.lt;have At:=ZQ.out.le;rcases fy R with rfl|⟨y,r,rfl⟩
      {have GN:Hid (∀G,¬ Good (List.map (·.1) ([]:List DR)) l G):=λG h=>(by obtain⟨D0,d,h1,_⟩:=Bv h HW.out;simp at h1);go_wp2;go_meet;exact(L6I.next bt.out SG.out ZQ.out (SZ.out.up (F3 _)) K1.out (λ_=>rfl) (λG h=>absurd h (GN.out G)))}
      ·have B:(y++[r]).length=y.length+1:=by simp
       have GN:=ae (λG (h:Good (List.map (·.1) (y++[r])) l G)=>Bv h HW.out);have hr:=SZ.out.2 r.1 (by simp);have Jw:=hr.a;have Jz:=hr.l;obtain⟨C,cd,DS⟩:=bV ZQ.out.row.i (by rw[B];omega);cases DS
       rw[B] at r0 Jq;try rw[B]
       have ek:((y.length+1:Nat):Int) - 1=(y.length:Int):=by omega
       have JC:(y.length:Int)+1 - 1=(y.length:Int):=by omega
       have k5:(0:Int)<=(y.length:Int):=by omega
       have k6:(y.length:Int)<(y.length:Int)+1:=by omega
       clear hr;go_upto_region 29 with fail;have q:Hid (ASt o (w.heap.size+1) ZK.heap.size (Z (T (Q C 0 Y)) (y.length+1) c) (y++[r])):=by have:=ZQ.out;rw[B] at this;exact this
       have K5:=K1;have cell:=cD (by rw[B];have:=q.out.row.i;rw[B] at this;exact this) (i:=y.length) (r:=r) (by simp) 5 (by omega) (u:=r.2.2) rfl;have m0:=cell.1;have ro:=(q.out.row.i.lt C rfl).2;have At:=q.out.le;have ZN:=ae (q.out.row.sub r (by simp)).V;obtain⟨av,cv,aq⟩:=bK ZN.out;have dg:=ae aq;rw[aq] at m0;clear cell aq;have ZO:Hid (∀V:M,(∀k,k<o.heap.size->T k≠r.2.2.ownBlock->V.heap[k]?=o.heap[k]?)->A V (Q (w.heap.size+1) 0 Y)=T (Z (T (Q C 0 Y)) (y.length+1) c)/\A V (Q C (y.length*6+5) Y)=T (Z av r.1.b cv)/\A V (Q z 1 Y)=T (U ⟨(af 32 (af 32 l).2.1).1.toArray⟩)/\A V (Q z 2 Y)=T (U ⟨(af 32 (af 32 (af 32 l).2.1).2.1).1.toArray⟩)):=λV F=>⟨(cq (a:=(Q (w.heap.size+1) 0 Y)) (F (w.heap.size+1) X (λe=>by have h1:=(ZN.out.lt _ e.symm).1;have h2:=q.out.lt;omega))).trans r0,(cq (a:=(Q C (y.length*6+5) Y)) (F (C) ro (λe=>(bq q.out.row.i C rfl).ne (by decide) (bq ZN.out C e.symm)))).trans m0,(cq (a:=(Q z 1 Y)) (F (z) l2 (λe=>by have h1:=((O.out.row.sub r (by simp)).V.lt _ e.symm).2;omega))).trans y1,(cq (a:=(Q z 2 Y)) (F (z) l2 (λe=>by have h1:=((O.out.row.sub r (by simp)).V.lt _ e.symm).2;omega))).trans y2⟩
       have W:=ae (ZO.out o.drew (λk ZL _=>rfl));have H:Hid (Below o.heap.size o o.drew):=(eL _ o).drew;refine aE (λV=>A V (Q (w.heap.size+1) 0 Y)=T (Z (T (Q C 0 Y)) (y.length+1) c)/\A V (Q C (y.length*6+5) Y)=T (Z av r.1.b cv)/\A V (Q z 1 Y)=T (U ⟨(af 32 (af 32 l).2.1).1.toArray⟩)/\A V (Q z 2 Y)=T (U ⟨(af 32 (af 32 (af 32 l).2.1).2.1).1.toArray⟩)) 21 (by as_aux_lemma=>kernel_rfl) ?_;iterate 17
        refine aI 0 (v:=?_) rfl rfl (by as_aux_lemma=>kernel_rfl) (λ_ _ _ h=>h) rfl ?_ W.out ?_;rotate_left
        ·(rintro wz ⟨s0,s1,s2,s3⟩;go_simp)
         (try with_reducible rfl)
        (try simp only[Act.put,nzL])
       refine ag (i:=17) rfl (by as_aux_lemma=>kernel_rfl) λK m=>?_;go_simp;have ZM:=ae (H.out.alloc H.out.size (N #[U ⟨(af 32 (af 32 l).2.1).1.toArray⟩,ZD ZA,ZD ((af 32 (af 32 (af 32 l).2.1).2.1).1 == [49]),J I 0] 93));refine m.out _ _ (λ_=>ZO.out _ (λk ZL _=>ZM.out.block k ZL)) ?_;clear m K
       (try simp only[Act.put,nzL])
       refine ag (i:=18) rfl (by as_aux_lemma=>kernel_rfl) λK m=>?_
       (refine aA rfl (.tmp 169) (.tmp 178) 60 rfl ZK.heap.size 93 i3 (.agg #[U ⟨#[]⟩,ZD ZA,ZD ZA,J I 0]) 4 32 ON JD Jv JE Jy rfl (by decide) (Z av r.1.b cv) r.1.b (bo r.1.m r.1.b) (by simp[Act.eval]) (by rw[<-dg.out];first|exact ZN.out.alloc _|exact ZN.out.drew.alloc _|exact ZN.out.drew.drew.alloc _|exact ZN.out.drew.drew.drew.alloc _) (Q o.heap.size 0 Y) 1 1 [U ⟨(af 32 (af 32 l).2.1).1.toArray⟩,ZD ZA,ZD ((af 32 (af 32 (af 32 l).2.1).2.1).1 == [49]),J I 0] (by simp[Act.eval]) rfl (by first|exact dn o _ _ _ _ _|exact dn o.drew _ _ _ _ _|exact dn o.drew.drew _ _ _ _ _|exact dn o.drew.drew.drew _ _ _ _ _) (by simp[Value.oneCell']) (by unfold maxLen;omega) (by omega) (by simp;omega) ?_;intro v6 w6 b f ZR;rw[<-dg.out] at f ZR;(first|have t:=ae (q.out.moreL (x:=⟨⟨(af 32 (af 32 l).2.1).1.toArray⟩,ZA,(af 32 (af 32 (af 32 l).2.1).2.1).1 == [49],0⟩) (eL _ o) b f ZR)|have t:=ae (q.out.moreL (x:=⟨⟨(af 32 (af 32 l).2.1).1.toArray⟩,ZA,(af 32 (af 32 (af 32 l).2.1).2.1).1 == [49],0⟩) (eL _ o).drew b f ZR)|have t:=ae (q.out.moreL (x:=⟨⟨(af 32 (af 32 l).2.1).1.toArray⟩,ZA,(af 32 (af 32 (af 32 l).2.1).2.1).1 == [49],0⟩) (eL _ o).drew.drew b f ZR)|have t:=ae (q.out.moreL (x:=⟨⟨(af 32 (af 32 l).2.1).1.toArray⟩,ZA,(af 32 (af 32 (af 32 l).2.1).2.1).1 == [49],0⟩) (eL _ o).drew.drew.drew b f ZR));obtain⟨a6,c6,rfl⟩:=bK b;have k0:=t.out.2.2.1;have k1:=t.out.2.2.2.1;have k2:=t.out.2.2.2.2.1;have k3:=t.out.2.2.2.2.2.c0;have k4:=t.out.2.2.2.2.2.lt;rw[dg.out] at k0;have G6:=ae (ZO.out w6 (fS (by first|exact ZM.out|exact ZM.out.drew) f));clear b f ZR)
       refine m.out _ _ (λ_=>G6.out) ?_;clear m K
       (try simp only[Act.put,nzL])
       iterate 2
        refine cB 19 rfl rfl (by as_aux_lemma=>kernel_rfl) λK m=>?_;go_simp;refine m.out _ _ (λ_=>G6.out) ?_;clear m K
        (try simp only[Act.put,nzL])
       refine ag (i:=21) rfl (by as_aux_lemma=>kernel_rfl) λK m=>?_;go_simp;refine m.out _ _ (λh=>absurd rfl h) ?_;clear m K
       (try simp only[Act.put,nzL])
       refine aW (by as_aux_lemma=>kernel_rfl) ?_ _;go_simp;go_wp2;go_meet
       exact(L6I.next bt.out SG.out (t.out.1.len (by simp)) (by have hz:=SZ.out;rw[BG,MX,MZ] at hz ⊢;exact hz.lkA _ (by show(af 32 (af 32 l).2.1).1.toArray.size<=300000;rw[CX];omega)) (K5.out.trans t.out.2.1) (λe=>absurd e NE.out) (λG h=>by
         obtain⟨D0,d,h1,h4⟩:=GN.out G h;rw[BG,MX,MZ] at h1 ⊢;obtain⟨rfl,h5⟩:=PQ h1 rfl;cases h5
         rw[h4]))
    have m_src:((af 32 l).1 == [115,111,117,114,99,101])=ZA:=by simpa using ld
    have m_non:((af 32 l).1 == [110,111,110,101])=ZA:=by simpa using ph
    have m_tgt:((af 32 l).1 == [116,97,114,103,101,116])=ZA:=by simpa using la
    have m_do:((af 32 l).1 == [100,111])=ZA:=by simpa using sm
    have m_ask:((af 32 l).1 == [97,115,107])=ZA:=by simpa using mv
    have m_has:((af 32 l).1 == [104,97,115])=ZA:=by simpa using n9
    have GO:=ae (λG (h:Good (R.map (·.1)) l G)=>EE h ld ph la sm mv n9);go_wp2;go_meet;exact(L6I.next bt.out SG.out ZQ.out (SZ.out.up (F3 _)) K1.out (λ_=>rfl) (λG h=>(GO.out G h).symm))
   case rest =>
   have HN:=ae hcut.out;clear hcut;go_wp2;exact⟨⟨j+1,by omega,by go_num,HN.out⟩,by simp[intOf];omega⟩
  ·obtain rfl:j=ls.length:=by omega
   have S9:=ae (O.out);have cb:=O.out.H.c0;have bk:=ae ((SK.out.keep w.heap.size (by omega) (by omega) (.inl (by omega))).trans BW.out);have b0:=(AcB.c0 bk.out)
   have b1:=(AcB.fz bk.out)
   have b2:=(AcB.lt bk.out)
   have BF:=ae (AcB.set bk.out (Z a R.length c));have AF:=ae ((AW.out.trans (SK.out.aa (n:=w.heap.size) (by omega) (by omega) (by omega))).setCell (p:=(Q w.heap.size 0 Y)) ly (Z a R.length c));have DF:=ae ((O.out.row.set (p:=(Q w.heap.size 0 Y)) (e:=0) (.inl (by show w.heap.size<ZK.heap.size;omega)) (Z a R.length c)).mono (show w.heap.size+2<=ZK.heap.size by omega));go_wp2;try simp only[Exit.inBlock,Exit.then]
   refine bp (Fs rfl _ _ w.heap.size _ rfl BF.out) rfl ?_;refine⟨AF.out,a,c,R,rfl,DF.out,SZ.out.up (by omega),λE hE=>?_⟩;have h:=SG.out E hE;rw[List.drop_length] at h;exact h
