import Derived.Deep.CutBlock
import Derived.Test.YtpmnbjkjpnclaaaGreatDoorOA
import Derived.BigRegion
import Derived.Test.YtpmnbjkjpnclaaaGreatDoorQE
set_option maxRecDepth 100000
set_option maxHeartbeats 40000000
open Go renaming Addr.mk->Q,Value.slice->Z,Value.string->Y,Value.int->J,Value.bool->ZD,Obj.cells->N,IntKind.i64->I,World->M,Value->ZC,Ending.returned->ZF,World.cell?->A,Proofs.Tryz.prog->Pg
open Option renaming none->U,some->T
open Bool renaming false->ZA,true->ZG
namespace Go.Proofs.YtpmnbjkjpnclaaaGreatDoor.Vp
open Tryz RowKit Ca
variable {b c n:Nat}{w:M}{R:List DR}
def L6I (h wr:M)(b f:Nat)(g:List (List UInt8))(j:Nat):Prop :=
 ∃a c R,ASt wr b f (Z a R.length c) R/\SzD j (R.map (·.1))/\(∀E,bB [] (tL g) E->bB (R.map (·.1)) (tL (g.drop j)) E)/\KR b f h wr
theorem L6I.next{m g:M}{j:Nat}{h:List (List UInt8)}{f:List DR}{n:Option Addr}{i:Nat}{l:List UInt8}(t:h[j]?=T l)(q:∀E,bB [] (tL h) E->bB (R.map (·.1)) (tL (h.drop j)) E)
  (p:ASt g b c (Z n f.length i) f) (r:SzD (j+1) (f.map (·.1))) (x:KR b c m g) (h1:l=[]->f.map (·.1)=R.map (·.1)) (h2:∀G,Good (R.map (·.1)) l G->f.map (·.1)=G):L6I m g b c h (j+1):=by
 refine⟨n,i,f,p,r,λE u=>?_,x⟩;have h3:=q E u;obtain⟨s,o⟩:=n8.1 t;rw[QY s,o] at h3;exact Iq h1 h2 h3
theorem fW{W ZJ V:M}{row:Option Nat}(c:Below W.heap.size W ZJ)(f:ZJ.grownBy V row):∀k,k<W.heap.size->T k≠row->V.heap[k]?=W.heap[k]?:=λk b hn=>(f.block k (lj b c.size) hn).trans (c.block k b)
theorem ASt.len{f:Nat}{a:Option Addr}(h:ASt w b f (Z a n c) R)(hn:R.length=n):ASt w b f (Z a R.length c) R:=by rw[hn];exact h
theorem AcB.aa{c:M}{B:Nat}{v:ZC}(h:AcB w b v)(hb:Below B w c)(f:b<B):AcB c b v:=(hb.block b f).trans h
theorem Gh{fn:Func}{p:Tmp}(h:fn.results=#[.cell p 37])(tmps:Array ZC)(w:M)(g:Nat)(v:ZC)(c:tmps.getD p undef=.pointer (T (Q g 0 U)))(b:AcB w g v):(results fn tmps).run Pg w=.ok (.agg #[v]) w :=
 results_cell_row h tmps w g 37 #[v] (0,0) _ c b underlying37 rfl (show(Pg.info? 37).map (·.size)=T 1 by kernel_rfl)
theorem dA{g cap:Nat}{L:List (List UInt8)}(h:w.ownsRow b 9 1 (Z (T (Q g 0 U)) n cap) n (cK L))(k:Nat){x:List UInt8}(c:L[k]?=T x):A w (Q g k U)=T (Y ⟨x.toArray⟩):=by have h1:=UJ h (g:=g) rfl k (Y ⟨x.toArray⟩) (by simp[cK,c]);rwa[addr_add,FM] at h1
theorem j7 (L ZQ:List (List UInt8)):cK (L++ZQ)=cK L++cK ZQ:=by simp[cK]
theorem rP (w:M)(x y:ZC)(t:TypeId):∀j u,[x,y][j]?=T u->(w.alloc (N #[x,y] t)).cell? (((Q w.heap.size 0 U):Addr).add j)=T u:=by intro j u b;rw[addr_add,FM];exact jj w _ t w.heap.size j u rfl (by simpa using b)
theorem xE (x:List UInt8):∃(op:Int) (tx:List UInt8) (c:Int) (b:Bool),zo (bE x)=.tuple #[.agg #[J I op,Y ⟨tx.toArray⟩,J I c],ZD b]/\Gx (bE x)=⟨op,⟨tx.toArray⟩,c⟩/\tx.length<=2000:=by
 cases h:bE x with
 |some i =>
  refine⟨i.1,i.2.1,i.2.2,ZG,rfl,rfl,?_⟩;have h1:=ed (vD h);have h2:aE i.1<=2000:=by unfold aE;split<;>omega
  omega
 |none=>exact⟨0,[],0,ZA,rfl,rfl,E4 _⟩
theorem ws (s:List UInt8):(be (bS s)).length<=s.length:=by
 have h1:=kj (bS s);have h2:(bS s).length<=s.length:=by unfold bS;rw[OD,LD];omega
 omega
theorem Au (s:ByteArray)(w:M)(hs:s.size<=300000):Calls Pg 143 #[Y s] w λe w'=>Below w.heap.size w w'/\∃a c R,e=ZF (.agg #[Z a R.length c])/\DRow w' (w.heap.size+2) (Z a R.length c) R/\SzD 300001 (R.map (·.1))/\∀E,bB [] (tL (aL s.data.toList)) E->R.map (·.1)=E:=by
 have A0:=ae (((q9 w).alloc ly (N #[Z U 0 0] 37)).alloc (by simp) (N #[Z U 0 0] 37));have H:Hid (AcB ((w.alloc (N #[Z U 0 0] 37)).alloc (N #[Z U 0 0] 37)) w.heap.size (Z U 0 0)):=by show _=_;rw[QI _ _ (by simp)];exact nL w _
 have C0:Hid (AcB ((w.alloc (N #[Z U 0 0] 37)).alloc (N #[Z U 0 0] 37)) (w.heap.size+1) (Z U 0 0)):=US w _ _;have LC:=ae (λV=>Bj s V (by omega));have LA:=ae (qI s.data.toList.length s.data.toList ly);have hsl:s.data.toList.length=s.size:=aO s;generalize aL s.data.toList=ls at LC LA ⊢;have LM:Hid (∀l∈ls,l.length<=300000):=λl hl=>by have:=(LA.1 l hl).2;omega
 have hln:ls.length<=300001:=by have:=LA.2;omega
 clear LA;obtain⟨i0,DE,DQ,DS,Fd⟩:=kO oZ;obtain⟨i1,hi,Id,Kv,Kt⟩:=L8 fk;obtain⟨i2,KX,La,KZ,KQ⟩:=L8 li;obtain⟨i3,Ky,KE,KD,Kz⟩:=L8 iy;go_enter func143,ntmps143;go_wp2_with fail;generalize (w.alloc (N #[Z U 0 0] 37)).alloc (N #[Z U 0 0] 37)=V0 at A0 H C0 ⊢;have zV:w.heap.size+1<V0.heap.size:=C0.lt;refine(LC V0).mono ?_;rintro e ZJ ⟨g,cap,rfl,hO,_,hB⟩;have AW:=ae (A0.trans (hB.mono A0.size));have BW:=ae (H.aa hB (by omega));have CW:=ae (C0.aa hB (by omega));have LO:=ae hO;have zW:V0.heap.size<=ZJ.heap.size:=hB.size;have gW:g<ZJ.heap.size:=(hO.lt g rfl).2;have I0:Hid (L6I ZJ ZJ (w.heap.size+1) ZJ.heap.size ls 0):=⟨U,0,[],⟨CW,cA _ _,by omega,n6 _⟩,SzD.nil _,λE hE=>hE,KR.refl _ _ _⟩
 clear hB hO A0 H C0 LC CW;go_wp2;go_loopw [5,6,7,8,9] (λiv _ _ _ _ wr=>∃j:Nat,j<=ls.length/\iv=J I j/\Hid (L6I ZJ wr (w.heap.size+1) ZJ.heap.size ls j)) (λiv _ _ _ _ _=>ls.length - (intOf iv).toNat);case atStart=>exact⟨0,by omega,rfl,I0⟩
 case round =>
  obtain⟨j,hj,rfl,HI⟩:=hrel;obtain⟨a,c,R,hA,hZ,hG,m⟩:=HI.out;have ZM:=ae hA;have SZ:=ae hZ;have SG:=ae hG;have SK:=ae m;have Ku:R.length<=j:=by have:=hZ.1;simpa using this
  have zr:=m.size;have r0:=hA.G.c0;have X:=hA.G.lt;clear hA hZ hG m HI;by_cases Lc:j<ls.length
  ·obtain⟨l,hl⟩:∃l,ls[j]?=T l:=⟨_,gq Lc⟩
   have bt:=ae hl;have hll:=LM.out l (LB hl);have cl:A wr (Q g j U)=T (Y ⟨l.toArray⟩):=(cq (a:=(Q g j U)) (SK.keep g gW (by have:=(LO.lt g rfl).1;omega) (.inl gW))).trans (dA LO j hl);have gl:g<wr.heap.size:=by omega
   have hlt2:(j:Int)<ls.length:=by omega
   clear hl;go_upto_block 1 with fail;go_cut [] (λwx=>Hid (L6I ZJ wx (w.heap.size+1) ZJ.heap.size ls (j+1)));case first =>
    go_wp2_with fail;refine(oA ⟨l.toArray⟩ 3 (by omega) wr (by show l.length<=_;omega)).mono ?_;rintro e L ⟨g1,c1,rfl,ur,B,At⟩;have ur:L.ownsRow wr.heap.size 9 1 (Z (T (Q g1 0 U)) (aP 3 l).length c1) (aP 3 l).length (cK (aP 3 l)):=ur;have B:(aP 3 l).length<=4:=B;have H1:=ae At;have O1:=ae ur;have ZO:=ae (ZM.aa At);have K1:=ae (SK.trans (KR.u At ly));obtain⟨Ld,Kx⟩:=sR 3 (by omega) l;have e0:=dA ur 0 (x:=(af 32 l).1) (by rw[Kx];rfl);have p0:(0:Int)<((aP 3 l).length:Int):=by rw[Kx];simp only[eL];omega
    have l1:=(ur.lt g1 rfl).2;have g1r:=(ur.lt g1 rfl).1;have Bk:=(At.cell (p:=(Q g j U)) gl).trans cl;have gl1:g<L.heap.size:=lj gl At.size;have qr:=At.size;have hcl:=cy 32 l;have hcl2:=cy 32 (af 32 l).2.1;have hcl3:=cy 32 (af 32 (af 32 l).2.1).2.1;clear ur At r0 X cl Kx Ld;have r0:=ZO.G.c0;have r1:=ZO.G.fz;have X:=ZO.G.lt;have LE:=ae (λ(e:l=[])=>show(af 32 l).1=[] by rw[e];rfl);by_cases fd:(af 32 l).1=[115,111,117,114,99,101]
    ·have HW:=ae fd;have NE:Hid (l≠[]):=λe=>by have:=LE.out e;rw[fd] at this;cases this
     rw[fd] at e0;go_wp2_with fail;refine(oA ⟨l.toArray⟩ 2 (by omega) L (by show l.length<=_;omega)).mono ?_;rintro e o ⟨z,c2,rfl,GS,KN,n9⟩;have GS:o.ownsRow L.heap.size 9 1 (Z (T (Q z 0 U)) (aP 2 l).length c2) (aP 2 l).length (cK (aP 2 l)):=GS;have KN:(aP 2 l).length<=4:=KN;have O2:=ae GS;have KC:=ae n9;have ZB:=ae n9.size;have zb2:=n9.size;clear GS n9;go_wp2_with (at_builtin;refine BS _ rfl (.tmp 37) (.tmp 38) 30 rfl L.heap.size 9 i0 (Y ⟨#[]⟩) 1 16 IB DE DQ DS Fd rfl (by decide) _ (aP 2 l).length (cK (aP 2 l)) (by simp[Act.eval]) (O2.alloc _) (Q o.heap.size 0 U) 2 2 [Y ⟨#[]⟩,Y ⟨#[]⟩] (by simp[Act.eval]) rfl (rP o _ _ _) (by simp[Value.oneCell']) (by unfold maxLen;omega) (by omega) (by simp;omega) ?_);intro v3 ZP b f ZI;have b:ZP.ownsRow L.heap.size 9 1 v3 ((aP 2 l).length+2) (cK (aP 2 l++[[],[]])):=by rw[j7];exact b
     obtain⟨g3,c3,rfl⟩:=dq b (by omega);have H3:=ae (bg ((dB L.heap.size o).alloc ZB _) f (by simp;have:=ZB.out;omega) (λk e=>(O2.lt k e).1));have O3:=ae b;have l3:=(b.lt g3 rfl).2;have g3r:=(b.lt g3 rfl).1;obtain⟨Hx,ZQ⟩:=sT l;have y1:=dA b 1 (x:=(af 32 (af 32 l).2.1).1) (by rw[ZQ];rfl);have y2:=dA b 2 (x:=(af 32 (af 32 l).2.1).2.1) (by rw[ZQ];rfl);have q2:(2:Int)<((aP 2 l).length:Int)+2:=by have:=wA List.length ZQ;rw[cM] at this;simp only[eL,nX] at this;omega
     have q1:(1:Int)<((aP 2 l).length:Int)+2:=by omega
     have P:=ae (H1.trans ((KC.trans H3).mono qr));have SL:=ae (ZM.aa P);have KL:=ae (SK.trans (KR.u P ly));clear b f ZI e0 r0 r1 X Bk P;have r0:=SL.G.c0;have r1:=SL.G.fz;have X:=SL.G.lt;have ro:=SL.le;have GN:=ae (λG (h:Good (R.map (·.1)) l G)=>Jw h HW);have Fm:=λV=>jn ⟨(af 32 (af 32 l).2.1).2.1.toArray⟩ V (by show(af 32 (af 32 l).2.1).2.1.length<=_;omega);have UQ:Hid (∀V,Calls Pg 201 #[Y ⟨(af 32 (af 32 l).2.1).2.1.toArray⟩] V λe w'=>e=ZF (Y ⟨(be (bS (af 32 (af 32 l).2.1).2.1)).toArray⟩)/\Below V.heap.size V w'):=Fm;have ul:=ws (af 32 (af 32 l).2.1).2.1;clear Fm O2 KC H3 O3;go_upto_region 11 with fail;have ZN:Hid (∀V:M,(∀k,k<ZP.heap.size->T k≠(Value.slice a R.length c).ownBlock->V.heap[k]?=ZP.heap[k]?)->A V (Q (w.heap.size+1) 0 U)=T (Z a R.length c)/\A V (Q g3 1 U)=T (Y ⟨(af 32 (af 32 l).2.1).1.toArray⟩)/\A V (Q g3 2 U)=T (Y ⟨(af 32 (af 32 l).2.1).2.1.toArray⟩)):=λV F=>⟨(cq (a:=(Q (w.heap.size+1) 0 U)) (F (w.heap.size+1) X (λe=>by have h1:=(SL.row.i.lt _ e.symm).1;have h2:=SL.lt;omega))).trans r0,(cq (a:=(Q g3 1 U)) (F (g3) l3 (λe=>by have h1:=(ZM.row.i.lt _ e.symm).2;omega))).trans y1,(cq (a:=(Q g3 2 U)) (F (g3) l3 (λe=>by have h1:=(ZM.row.i.lt _ e.symm).2;omega))).trans y2⟩
     have ZL:=ae (ZN ZP.drew (λk W _=>rfl));have H:Hid (Below ZP.heap.size ZP ZP.drew):=(dB _ ZP).drew;refine aD (λV=>A V (Q (w.heap.size+1) 0 U)=T (Z a R.length c)/\A V (Q g3 1 U)=T (Y ⟨(af 32 (af 32 l).2.1).1.toArray⟩)/\A V (Q g3 2 U)=T (Y ⟨(af 32 (af 32 l).2.1).2.1.toArray⟩)) 13 (by kernel_rfl) ?_;iterate 8
      refine aI 0 (v:=?_) rfl rfl (by kernel_rfl) (λ_ _ _ h=>h) rfl ?_ ZL ?_;rotate_left
      ·(rintro wz ⟨s0,s1,s2⟩;go_simp)
       (try with_reducible rfl)
      (try simp only[Act.put,nzL])
     refine ah (i:=8) rfl (by kernel_rfl) λK m=>?_;go_simp;go_at_call 201;refine(UQ _).mono ?_;rintro e ZK ⟨rfl,Fk⟩;have D5:=ae (H.trans (Fk.mono H.size));have q:=ae (SL.aa D5);have K5:=ae (KL.trans (KR.u D5 ly));replace H:=D5;replace ZL:=ae (ZN _ (λk W _=>D5.block k W));have KP:=q.le;clear Fk;refine m _ _ (λ_=>ZL) ?_;clear m K
     (try simp only[Act.put,nzL])
     refine aI 9 (v:=?_) rfl rfl (by kernel_rfl) (λ_ _ _ h=>h) rfl ?_ ZL ?_;rotate_left
     ·(rintro wz ⟨s0,s1,s2⟩;go_simp)
      (try with_reducible rfl)
     (try simp only[Act.put,nzL])
     refine ah (i:=10) rfl (by kernel_rfl) λK m=>?_;go_simp;have O:=ae (H.alloc H.size (N #[Y ⟨(af 32 (af 32 l).2.1).1.toArray⟩,J I 1,J I 0,Y ⟨(be (bS (af 32 (af 32 l).2.1).2.1)).toArray⟩,Z U 0 0,Z U 0 0] 46));refine m _ _ (λ_=>ZN _ (λk W _=>O.block k W)) ?_;clear m K
     (try simp only[Act.put,nzL])
     refine ah (i:=11) rfl (by kernel_rfl) λK m=>?_
     (refine aG rfl (.tmp 41) (.tmp 50) 35 rfl ZJ.heap.size 46 i1 (.agg #[Y ⟨#[]⟩,J I 0,J I 0,Y ⟨#[]⟩,Z U 0 0,Z U 0 0]) 6 96 OT hi Id Kv Kt rfl (by decide) (Z a R.length c) R.length (R.flatMap ddV) (by simp[Act.eval]) (by first|exact q.row.i.alloc _|exact q.row.i.drew.alloc _|exact q.row.i.drew.drew.alloc _|exact q.row.i.drew.drew.drew.alloc _) (Q ZK.heap.size 0 U) 1 1 [Y ⟨(af 32 (af 32 l).2.1).1.toArray⟩,J I 1,J I 0,Y ⟨(be (bS (af 32 (af 32 l).2.1).2.1)).toArray⟩,Z U 0 0,Z U 0 0] (by simp[Act.eval]) rfl (by first|exact dO ZK _ _ _ _ _ _ _|exact dO ZK.drew _ _ _ _ _ _ _|exact dO ZK.drew.drew _ _ _ _ _ _ _|exact dO ZK.drew.drew.drew _ _ _ _ _ _ _) (by simp[Value.oneCell']) (by unfold maxLen;omega) (by omega) (by simp;omega) ?_;intro v6 w6 b f ZR;(first|have t:=ae (q.am (dB _ ZK) b f)|have t:=ae (q.am (dB _ ZK).drew b f)|have t:=ae (q.am (dB _ ZK).drew.drew b f)|have t:=ae (q.am (dB _ ZK).drew.drew.drew b f));obtain⟨a6,c6,rfl⟩:=cJ b;have k0:=t.2.2.c0;have k1:=t.2.2.fz;have k2:=t.2.2.lt;have G6:=ae (ZN w6 (fW (by first|exact O|exact O.drew) f));clear b f ZR)
     refine m _ _ (λ_=>G6) ?_;clear m K
     (try simp only[Act.put,nzL])
     refine ah (i:=12) rfl (by kernel_rfl) λK m=>?_;go_simp;refine m _ _ (λ_=>G6) ?_;clear m K
     (try simp only[Act.put,nzL])
     refine ah (i:=13) rfl (by kernel_rfl) λK m=>?_;go_simp;refine m _ _ (λh=>absurd rfl h) ?_;clear m K
     (try simp only[Act.put,nzL])
     refine aX (by kernel_rfl) ?_ _;go_simp;go_wp2;go_meet;exact(L6I.next bt SG (t.1.len (by simp)) (by rw[DN];exact SZ.new _ _ _ _ (by show(af 32 (af 32 l).2.1).1.toArray.size<=300000;rw[CV];omega) (by show(be (bS (af 32 (af 32 l).2.1).2.1)).toArray.size<=300000;rw[CV];omega)) (K5.trans t.2.1) (λe=>absurd e NE) (λG h=>by rw[GN.out G h];simp))
    by_cases ph:(af 32 l).1=[110,111,110,101]
    ·have HW:=ae ph;have NE:Hid (l≠[]):=λe=>by have:=LE.out e;rw[ph] at this;cases this
     rw[ph] at e0;have ZB:=ae qr;go_wp2_with (at_builtin;refine BS _ rfl (.tmp 55) (.tmp 56) 30 rfl wr.heap.size 9 i0 (Y ⟨#[]⟩) 1 16 IB DE DQ DS Fd rfl (by decide) _ (aP 3 l).length (cK (aP 3 l)) (by simp[Act.eval]) (O1.alloc _) (Q L.heap.size 0 U) 1 1 [Y ⟨#[]⟩] (by simp[Act.eval]) rfl (cu L _ _) (by simp[Value.oneCell']) (by unfold maxLen;omega) (by omega) (by simp;omega) ?_);intro v2 o b f ZI;have b:o.ownsRow wr.heap.size 9 1 v2 ((aP 3 l).length+1) (cK (aP 3 l++[[]])):=by rw[j7];exact b
     obtain⟨z,c2,rfl⟩:=dq b (by omega);have H2:=ae (bg ((dB wr.heap.size L).alloc ZB _) f (by simp;have:=ZB.out;omega) (λk e=>(O1.lt k e).1));have O2:=ae b;have l2:=(b.lt z rfl).2;have JT:=(b.lt z rfl).1;obtain⟨Hx,ZQ⟩:=sS 3 (by omega) l [];have y1:=dA b 1 (x:=(af 32 (af 32 l).2.1).1) (by rw[ZQ];rfl);have q1:(1:Int)<((aP 3 l).length:Int)+1:=by have:=p0;omega
     have P:=ae (H1.trans H2);have q:=ae (ZM.aa P);have K5:=ae (SK.trans (KR.u P ly));clear b f ZI e0 r0 r1 X Bk;have r0:=q.G.c0;have r1:=q.G.fz;have X:=q.G.lt;have ro:=q.le;have GN:=ae (λG (h:Good (R.map (·.1)) l G)=>Jy h HW);go_upto_region 14 with fail;have ZN:Hid (∀V:M,(∀k,k<o.heap.size->T k≠(Value.slice a R.length c).ownBlock->V.heap[k]?=o.heap[k]?)->A V (Q (w.heap.size+1) 0 U)=T (Z a R.length c)/\A V (Q z 1 U)=T (Y ⟨(af 32 (af 32 l).2.1).1.toArray⟩)):=λV F=>⟨(cq (a:=(Q (w.heap.size+1) 0 U)) (F (w.heap.size+1) X (λe=>by have h1:=(q.row.i.lt _ e.symm).1;have h2:=q.lt;omega))).trans r0,(cq (a:=(Q z 1 U)) (F (z) l2 (λe=>by have h1:=(ZM.row.i.lt _ e.symm).2;omega))).trans y1⟩
     have ZL:=ae (ZN o.drew (λk W _=>rfl));have H:Hid (Below o.heap.size o o.drew):=(dB _ o).drew;refine aD (λV=>A V (Q (w.heap.size+1) 0 U)=T (Z a R.length c)/\A V (Q z 1 U)=T (Y ⟨(af 32 (af 32 l).2.1).1.toArray⟩)) 9 (by kernel_rfl) ?_;iterate 6
      refine aI 0 (v:=?_) rfl rfl (by kernel_rfl) (λ_ _ _ h=>h) rfl ?_ ZL ?_;rotate_left
      ·(rintro wz ⟨s0,s1⟩;go_simp)
       (try with_reducible rfl)
      (try simp only[Act.put,nzL])
     refine ah (i:=6) rfl (by kernel_rfl) λK m=>?_;go_simp;have O:=ae (H.alloc H.size (N #[Y ⟨(af 32 (af 32 l).2.1).1.toArray⟩,J I 2,J I 0,Y ⟨#[]⟩,Z U 0 0,Z U 0 0] 46));refine m _ _ (λ_=>ZN _ (λk W _=>O.block k W)) ?_;clear m K
     (try simp only[Act.put,nzL])
     refine ah (i:=7) rfl (by kernel_rfl) λK m=>?_
     (refine aG rfl (.tmp 59) (.tmp 64) 35 rfl ZJ.heap.size 46 i1 (.agg #[Y ⟨#[]⟩,J I 0,J I 0,Y ⟨#[]⟩,Z U 0 0,Z U 0 0]) 6 96 OT hi Id Kv Kt rfl (by decide) (Z a R.length c) R.length (R.flatMap ddV) (by simp[Act.eval]) (by first|exact q.row.i.alloc _|exact q.row.i.drew.alloc _|exact q.row.i.drew.drew.alloc _|exact q.row.i.drew.drew.drew.alloc _) (Q o.heap.size 0 U) 1 1 [Y ⟨(af 32 (af 32 l).2.1).1.toArray⟩,J I 2,J I 0,Y ⟨#[]⟩,Z U 0 0,Z U 0 0] (by simp[Act.eval]) rfl (by first|exact dO o _ _ _ _ _ _ _|exact dO o.drew _ _ _ _ _ _ _|exact dO o.drew.drew _ _ _ _ _ _ _|exact dO o.drew.drew.drew _ _ _ _ _ _ _) (by simp[Value.oneCell']) (by unfold maxLen;omega) (by omega) (by simp;omega) ?_;intro v6 w6 b f ZR;(first|have t:=ae (q.am (dB _ o) b f)|have t:=ae (q.am (dB _ o).drew b f)|have t:=ae (q.am (dB _ o).drew.drew b f)|have t:=ae (q.am (dB _ o).drew.drew.drew b f));obtain⟨a6,c6,rfl⟩:=cJ b;have k0:=t.2.2.c0;have k1:=t.2.2.fz;have k2:=t.2.2.lt;have G6:=ae (ZN w6 (fW (by first|exact O|exact O.drew) f));clear b f ZR)
     refine m _ _ (λ_=>G6) ?_;clear m K
     (try simp only[Act.put,nzL])
     refine ah (i:=8) rfl (by kernel_rfl) λK m=>?_;go_simp;refine m _ _ (λ_=>G6) ?_;clear m K
     (try simp only[Act.put,nzL])
     refine ah (i:=9) rfl (by kernel_rfl) λK m=>?_;go_simp;refine m _ _ (λh=>absurd rfl h) ?_;clear m K
     (try simp only[Act.put,nzL])
     refine aX (by kernel_rfl) ?_ _;go_simp;go_wp2;go_meet;exact(L6I.next bt SG (t.1.len (by simp)) (by rw[DN];exact SZ.new _ _ _ _ (by show(af 32 (af 32 l).2.1).1.toArray.size<=300000;rw[CV];omega) (by exact E4 _)) (K5.trans t.2.1) (λe=>absurd e NE) (λG h=>by rw[GN.out G h];simp))
    by_cases mv:(af 32 l).1=[116,97,114,103,101,116]
    ·have HW:=ae mv;have NE:Hid (l≠[]):=λe=>by have:=LE.out e;rw[mv] at this;cases this
     rw[mv] at e0;have ZB:=ae qr;go_wp2_with (at_builtin;refine BS _ rfl (.tmp 69) (.tmp 70) 30 rfl wr.heap.size 9 i0 (Y ⟨#[]⟩) 1 16 IB DE DQ DS Fd rfl (by decide) _ (aP 3 l).length (cK (aP 3 l)) (by simp[Act.eval]) (O1.alloc _) (Q L.heap.size 0 U) 3 3 [Y ⟨#[]⟩,Y ⟨#[]⟩,Y ⟨#[]⟩] (by simp[Act.eval]) rfl (fN L _ _ _ _) (by simp[Value.oneCell']) (by unfold maxLen;omega) (by omega) (by simp;omega) ?_);intro v2 o b f ZI;have b:o.ownsRow wr.heap.size 9 1 v2 ((aP 3 l).length+3) (cK (aP 3 l++[[],[],[]])):=by rw[j7];exact b
     obtain⟨z,c2,rfl⟩:=dq b (by omega);have H2:=ae (bg ((dB wr.heap.size L).alloc ZB _) f (by simp;have:=ZB.out;omega) (λk e=>(O1.lt k e).1));have O2:=ae b;have l2:=(b.lt z rfl).2;have JT:=(b.lt z rfl).1;obtain⟨Hx,ZQ⟩:=CJ l;have y1:=dA b 1 (x:=(af 32 (af 32 l).2.1).1) (by rw[ZQ];rfl);have y2:=dA b 2 (x:=(af 32 (af 32 (af 32 l).2.1).2.1).1) (by rw[ZQ];rfl);have y3:=dA b 3 (x:=(af 32 (af 32 (af 32 l).2.1).2.1).2.1) (by rw[ZQ];rfl);have q3:(3:Int)<((aP 3 l).length:Int)+3:=by have:=p0;omega
     have q2:(2:Int)<((aP 3 l).length:Int)+3:=by omega
     have q1:(1:Int)<((aP 3 l).length:Int)+3:=by omega
     have P:=ae (H1.trans H2);have SL:=ae (ZM.aa P);have KL:=ae (SK.trans (KR.u P ly));clear b f ZI e0 r0 r1 X Bk P;have r0:=SL.G.c0;have r1:=SL.G.fz;have X:=SL.G.lt;have ro:=SL.le;have GN:=ae (λG (h:Good (R.map (·.1)) l G)=>Jz h HW);have Fm:=λV=>jn ⟨(af 32 (af 32 (af 32 l).2.1).2.1).2.1.toArray⟩ V (by show(af 32 (af 32 (af 32 l).2.1).2.1).2.1.length<=_;omega);have UQ:Hid (∀V,Calls Pg 201 #[Y ⟨(af 32 (af 32 (af 32 l).2.1).2.1).2.1.toArray⟩] V λe w'=>e=ZF (Y ⟨(be (bS (af 32 (af 32 (af 32 l).2.1).2.1).2.1)).toArray⟩)/\Below V.heap.size V w'):=Fm;have Fn:=λV=>jS ⟨(af 32 (af 32 (af 32 l).2.1).2.1).1.toArray⟩ V (by show(af 32 (af 32 (af 32 l).2.1).2.1).1.length<=_;omega);have NU:Hid (∀V,Calls Pg 202 #[Y ⟨(af 32 (af 32 (af 32 l).2.1).2.1).1.toArray⟩] V λe w'=>e=ZF (J I (bQ 0 ((af 32 (af 32 (af 32 l).2.1).2.1).1.take 6)))/\w'=V):=Fn;have ul:=ws (af 32 (af 32 (af 32 l).2.1).2.1).2.1;clear Fm Fn H2 O2;go_upto_region 17 with fail;have ZN:Hid (∀V:M,(∀k,k<o.heap.size->T k≠(Value.slice a R.length c).ownBlock->V.heap[k]?=o.heap[k]?)->A V (Q (w.heap.size+1) 0 U)=T (Z a R.length c)/\A V (Q z 1 U)=T (Y ⟨(af 32 (af 32 l).2.1).1.toArray⟩)/\A V (Q z 2 U)=T (Y ⟨(af 32 (af 32 (af 32 l).2.1).2.1).1.toArray⟩)/\A V (Q z 3 U)=T (Y ⟨(af 32 (af 32 (af 32 l).2.1).2.1).2.1.toArray⟩)):=λV F=>⟨(cq (a:=(Q (w.heap.size+1) 0 U)) (F (w.heap.size+1) X (λe=>by have h1:=(SL.row.i.lt _ e.symm).1;have h2:=SL.lt;omega))).trans r0,(cq (a:=(Q z 1 U)) (F (z) l2 (λe=>by have h1:=(ZM.row.i.lt _ e.symm).2;omega))).trans y1,(cq (a:=(Q z 2 U)) (F (z) l2 (λe=>by have h1:=(ZM.row.i.lt _ e.symm).2;omega))).trans y2,(cq (a:=(Q z 3 U)) (F (z) l2 (λe=>by have h1:=(ZM.row.i.lt _ e.symm).2;omega))).trans y3⟩
     have ZL:=ae (ZN o.drew (λk W _=>rfl));have H:Hid (Below o.heap.size o o.drew):=(dB _ o).drew;refine aD (λV=>A V (Q (w.heap.size+1) 0 U)=T (Z a R.length c)/\A V (Q z 1 U)=T (Y ⟨(af 32 (af 32 l).2.1).1.toArray⟩)/\A V (Q z 2 U)=T (Y ⟨(af 32 (af 32 (af 32 l).2.1).2.1).1.toArray⟩)/\A V (Q z 3 U)=T (Y ⟨(af 32 (af 32 (af 32 l).2.1).2.1).2.1.toArray⟩)) 17 (by kernel_rfl) ?_;iterate 8
      refine aI 0 (v:=?_) rfl rfl (by kernel_rfl) (λ_ _ _ h=>h) rfl ?_ ZL ?_;rotate_left
      ·(rintro wz ⟨s0,s1,s2,s3⟩;go_simp)
       (try with_reducible rfl)
      (try simp only[Act.put,nzL])
     iterate 3
      refine aI 9 (v:=?_) rfl rfl (by kernel_rfl) (λ_ _ _ h=>h) rfl ?_ ZL ?_;rotate_left
      ·(rintro wz ⟨s0,s1,s2,s3⟩;go_simp)
       (try with_reducible rfl)
      (try simp only[Act.put,nzL])
     refine ah (i:=8) rfl (by kernel_rfl) λK m=>?_;go_simp;go_at_call 202;refine(NU _).mono ?_;rintro e wN ⟨rfl,rfl⟩;refine m _ _ (λ_=>ZL) ?_;clear m K
     (try simp only[Act.put,nzL])
     refine ah (i:=12) rfl (by kernel_rfl) λK m=>?_;go_simp;go_at_call 201;refine(UQ _).mono ?_;rintro e ZK ⟨rfl,Fk⟩;have D5:=ae (H.trans (Fk.mono H.size));have q:=ae (SL.aa D5);have K5:=ae (KL.trans (KR.u D5 ly));replace H:=D5;replace ZL:=ae (ZN _ (λk W _=>D5.block k W));have KP:=q.le;clear Fk;refine m _ _ (λ_=>ZL) ?_;clear m K
     (try simp only[Act.put,nzL])
     refine aI 13 (v:=?_) rfl rfl (by kernel_rfl) (λ_ _ _ h=>h) rfl ?_ ZL ?_;rotate_left
     ·(rintro wz ⟨s0,s1,s2,s3⟩;go_simp)
      (try with_reducible rfl)
     (try simp only[Act.put,nzL])
     refine ah (i:=14) rfl (by kernel_rfl) λK m=>?_;go_simp;have O:=ae (H.alloc H.size (N #[Y ⟨(af 32 (af 32 l).2.1).1.toArray⟩,J I 3,J I (bQ 0 ((af 32 (af 32 (af 32 l).2.1).2.1).1.take 6)),Y ⟨(be (bS (af 32 (af 32 (af 32 l).2.1).2.1).2.1)).toArray⟩,Z U 0 0,Z U 0 0] 46));refine m _ _ (λ_=>ZN _ (λk W _=>O.block k W)) ?_;clear m K
     (try simp only[Act.put,nzL])
     refine ah (i:=15) rfl (by kernel_rfl) λK m=>?_
     (refine aG rfl (.tmp 73) (.tmp 86) 35 rfl ZJ.heap.size 46 i1 (.agg #[Y ⟨#[]⟩,J I 0,J I 0,Y ⟨#[]⟩,Z U 0 0,Z U 0 0]) 6 96 OT hi Id Kv Kt rfl (by decide) (Z a R.length c) R.length (R.flatMap ddV) (by simp[Act.eval]) (by first|exact q.row.i.alloc _|exact q.row.i.drew.alloc _|exact q.row.i.drew.drew.alloc _|exact q.row.i.drew.drew.drew.alloc _) (Q ZK.heap.size 0 U) 1 1 [Y ⟨(af 32 (af 32 l).2.1).1.toArray⟩,J I 3,J I (bQ 0 ((af 32 (af 32 (af 32 l).2.1).2.1).1.take 6)),Y ⟨(be (bS (af 32 (af 32 (af 32 l).2.1).2.1).2.1)).toArray⟩,Z U 0 0,Z U 0 0] (by simp[Act.eval]) rfl (by first|exact dO ZK _ _ _ _ _ _ _|exact dO ZK.drew _ _ _ _ _ _ _|exact dO ZK.drew.drew _ _ _ _ _ _ _|exact dO ZK.drew.drew.drew _ _ _ _ _ _ _) (by simp[Value.oneCell']) (by unfold maxLen;omega) (by omega) (by simp;omega) ?_;intro v6 w6 b f ZR;(first|have t:=ae (q.am (dB _ ZK) b f)|have t:=ae (q.am (dB _ ZK).drew b f)|have t:=ae (q.am (dB _ ZK).drew.drew b f)|have t:=ae (q.am (dB _ ZK).drew.drew.drew b f));obtain⟨a6,c6,rfl⟩:=cJ b;have k0:=t.2.2.c0;have k1:=t.2.2.fz;have k2:=t.2.2.lt;have G6:=ae (ZN w6 (fW (by first|exact O|exact O.drew) f));clear b f ZR)
     refine m _ _ (λ_=>G6) ?_;clear m K
     (try simp only[Act.put,nzL])
     refine ah (i:=16) rfl (by kernel_rfl) λK m=>?_;go_simp;refine m _ _ (λ_=>G6) ?_;clear m K
     (try simp only[Act.put,nzL])
     refine ah (i:=17) rfl (by kernel_rfl) λK m=>?_;go_simp;refine m _ _ (λh=>absurd rfl h) ?_;clear m K
     (try simp only[Act.put,nzL])
     refine aX (by kernel_rfl) ?_ _;go_simp;go_wp2;go_meet;exact(L6I.next bt SG (t.1.len (by simp)) (by rw[DN];exact SZ.new _ _ _ _ (by show(af 32 (af 32 l).2.1).1.toArray.size<=300000;rw[CV];omega) (by show(be (bS (af 32 (af 32 (af 32 l).2.1).2.1).2.1)).toArray.size<=300000;rw[CV];omega)) (K5.trans t.2.1) (λe=>absurd e NE) (λG h=>by rw[GN.out G h];simp))
    by_cases sm:(af 32 l).1=[100,111]
    ·as_aux_lemma =>
      have HW:=ae sm;have NE:Hid (l≠[]):=λe=>by have:=LE.out e;rw[sm] at this;cases this
      rw[sm] at e0;rcases iX R with rfl|⟨y,r,rfl⟩
      {have GN:Hid (∀G,¬ Good (List.map (·.1) ([]:List DR)) l G):=λG h=>(by obtain⟨D0,d,h1,_⟩:=Gy h HW;simp at h1);go_wp2;go_meet;exact(L6I.next bt SG ZO (SZ.up (F6 _)) K1 (λ_=>rfl) (λG h=>absurd h (GN G)))}
      ·have B:(y++[r]).length=y.length+1:=by simp
       have GN:=ae (λG (h:Good (List.map (·.1) (y++[r])) l G)=>Gy h HW);have hr:=SZ.2 r.1 (by simp);have KH:=hr.a;have KJ:=hr.l;obtain⟨C,cd,DH⟩:=cC ZO.row.i (by rw[B];omega);cases DH
       rw[B] at r0 Ku;try rw[B]
       have ek:((y.length+1:Nat):Int) - 1=(y.length:Int):=by omega
       have KF:(y.length:Int)+1 - 1=(y.length:Int):=by omega
       have k5:(0:Int)<=(y.length:Int):=by omega
       have k6:(y.length:Int)<(y.length:Int)+1:=by omega
       clear hr;by_cases h3:3<l.length
       ·have KV:(3:Int)<(l.length:Int):=by omega
        have h3j:(3:Int)<=(l.length:Int):=by omega
        have ex:(⟨l.toArray⟩:ByteArray).extract 3 l.length=⟨(l.drop 3).toArray⟩:=by refine N5 (QS ?_);simp only[PH,P6,PC];rw[IU (by simp)]
        have KM:=zq ⟨(l.drop 3).toArray⟩ L (by show(l.drop 3).length<=_;rw[LD];omega);have RD:Hid (Calls Pg 203 #[Y ⟨(l.drop 3).toArray⟩] L λe w'=>e=ZF (zo (bE (l.drop 3)))/\Below L.heap.size L w'):=KM;obtain⟨op,tx,nn,okb,hv,Kw,KB⟩:=xE (l.drop 3);rw[hv] at RD;have KT:=ae Kw;have KB:tx.length<=2000:=KB;clear KM hv Kw;go_wp2_with fail;refine RD.mono ?_;rintro e o ⟨rfl,n9⟩;have P:=ae ((H1.trans (n9.mono qr)).alloc (p7 qr n9.size) (N #[J I op,Y ⟨tx.toArray⟩,J I nn] 151));have CK:Hid (CI (o.alloc (N #[J I op,Y ⟨tx.toArray⟩,J I nn] 151)) o.heap.size (J I op) (Y ⟨tx.toArray⟩) (J I nn)):=nL o _;have KU:wr.heap.size<=o.heap.size:=p7 qr n9.size;clear n9 RD;go_upto_region 21 with fail;generalize o.alloc (N #[J I op,Y ⟨tx.toArray⟩,J I nn] 151)=ZP at P CK ⊢;generalize o.heap.size=iB at CK KU ⊢;have q:Hid (ASt ZP (w.heap.size+1) ZJ.heap.size (Z (T (Q C 0 U)) (y.length+1) c) (y++[r])):=by have:=ZM.aa P.out;rw[B] at this;exact this
        have K5:=ae (SK.trans (KR.u P ly));clear e0 r0 r1 X Bk P ex;have c0:=CK.c0;have Lb:=CK.c1;have Le:=CK.c2;have cz:=CK.lt;have r0:=q.G.c0;have r1:=q.G.fz;have X:=q.G.lt;have cell:=cR (by rw[B];have:=q.row.i;rw[B] at this;exact this) (i:=y.length) (r:=r) (by simp) 4 (by omega) (u:=r.2.1) rfl;have m0:=cell.1;have th:=(q.row.i.lt C rfl).2;have ro:=q.le;have S:=ae (q.row.sub r (by simp)).H;obtain⟨av,cv,aq⟩:=cJ S;have dg:=ae aq;rw[aq] at m0;clear cell aq;have ZN:Hid (∀V:M,(∀k,k<ZP.heap.size->T k≠r.2.1.ownBlock->V.heap[k]?=ZP.heap[k]?)->A V (Q (w.heap.size+1) 0 U)=T (Z (T (Q C 0 U)) (y.length+1) c)/\A V (Q C (y.length*6+4) U)=T (Z av r.1.f cv)/\A V (Q iB 0 U)=T (J I op)/\A V (Q iB 1 U)=T (Y ⟨tx.toArray⟩)/\A V (Q iB 2 U)=T (J I nn)):=λV F=>⟨(cq (a:=(Q (w.heap.size+1) 0 U)) (F (w.heap.size+1) X (λe=>by have h1:=(S.lt _ e.symm).1;have h2:=q.lt;omega))).trans r0,(cq (a:=(Q C (y.length*6+4) U)) (F (C) th (λe=>(bu q.row.i C rfl).ne (by decide) (bu S C e.symm)))).trans m0,(cq (a:=(Q iB 0 U)) (F (iB) cz (λe=>by have h1:=((ZM.row.sub r (by simp)).H.lt _ e.symm).2;omega))).trans c0,(cq (a:=(Q iB 1 U)) (F (iB) cz (λe=>by have h1:=((ZM.row.sub r (by simp)).H.lt _ e.symm).2;omega))).trans Lb,(cq (a:=(Q iB 2 U)) (F (iB) cz (λe=>by have h1:=((ZM.row.sub r (by simp)).H.lt _ e.symm).2;omega))).trans Le⟩
        have ZL:=ae (ZN ZP.drew (λk W _=>rfl));have H:Hid (Below ZP.heap.size ZP ZP.drew):=(dB _ ZP).drew;refine aD (λV=>A V (Q (w.heap.size+1) 0 U)=T (Z (T (Q C 0 U)) (y.length+1) c)/\A V (Q C (y.length*6+4) U)=T (Z av r.1.f cv)/\A V (Q iB 0 U)=T (J I op)/\A V (Q iB 1 U)=T (Y ⟨tx.toArray⟩)/\A V (Q iB 2 U)=T (J I nn)) 16 (by kernel_rfl) ?_;iterate 11
         refine aI 0 (v:=?_) rfl rfl (by kernel_rfl) (λ_ _ _ h=>h) rfl ?_ ZL ?_;rotate_left
         ·(rintro wz ⟨s0,s1,s2,s3,s4⟩;go_simp)
          (try with_reducible rfl)
         (try simp only[Act.put,nzL])
        refine ah (i:=11) rfl (by kernel_rfl) λK m=>?_;go_simp;have O:=ae (H.alloc H.size (N #[J I op,Y ⟨tx.toArray⟩,J I nn] 151));refine m _ _ (λ_=>ZN _ (λk W _=>O.block k W)) ?_;clear m K
        (try simp only[Act.put,nzL])
        refine ah (i:=12) rfl (by kernel_rfl) λK m=>?_
        (refine aG rfl (.tmp 119) (.tmp 121) 41 rfl ZJ.heap.size 151 i2 (.agg #[J I 0,Y ⟨#[]⟩,J I 0]) 3 32 RB KX La KZ KQ rfl (by decide) (Z av r.1.f cv) r.1.f (bJ r.1.H r.1.f) (by simp[Act.eval]) (by rw[<-dg.out];first|exact S.alloc _|exact S.drew.alloc _|exact S.drew.drew.alloc _|exact S.drew.drew.drew.alloc _) (Q ZP.heap.size 0 U) 1 1 [J I op,Y ⟨tx.toArray⟩,J I nn] (by simp[Act.eval]) rfl (by first|exact fN ZP _ _ _ _|exact fN ZP.drew _ _ _ _|exact fN ZP.drew.drew _ _ _ _|exact fN ZP.drew.drew.drew _ _ _ _) (by simp[Value.oneCell']) (by unfold maxLen;omega) (by omega) (by simp;omega) ?_;intro v6 w6 b f ZR;rw[<-dg.out] at f ZR;(first|have t:=ae (q.moreA (x:=⟨op,⟨tx.toArray⟩,nn⟩) (dB _ ZP) b f ZR)|have t:=ae (q.moreA (x:=⟨op,⟨tx.toArray⟩,nn⟩) (dB _ ZP).drew b f ZR)|have t:=ae (q.moreA (x:=⟨op,⟨tx.toArray⟩,nn⟩) (dB _ ZP).drew.drew b f ZR)|have t:=ae (q.moreA (x:=⟨op,⟨tx.toArray⟩,nn⟩) (dB _ ZP).drew.drew.drew b f ZR));obtain⟨a6,c6,rfl⟩:=cJ b;have k0:=t.2.2.1;have k1:=t.2.2.2.1;have k2:=t.2.2.2.2.1;have k3:=t.2.2.2.2.2.c0;have k4:=t.2.2.2.2.2.lt;rw[dg.out] at k0;have G6:=ae (ZN w6 (fW (by first|exact O|exact O.drew) f));clear b f ZR)
        refine m _ _ (λ_=>G6) ?_;clear m K
        (try simp only[Act.put,nzL])
        iterate 3
         refine cD 13 rfl rfl (by kernel_rfl) λK m=>?_;go_simp;refine m _ _ (λ_=>G6) ?_;clear m K
         (try simp only[Act.put,nzL])
        refine ah (i:=16) rfl (by kernel_rfl) λK m=>?_;go_simp;refine m _ _ (λh=>absurd rfl h) ?_;clear m K
        (try simp only[Act.put,nzL])
        refine aX (by kernel_rfl) ?_ _;go_simp;go_wp2;go_meet
        exact(L6I.next bt SG (t.1.len (by simp)) (by have hz:=SZ.out;rw[DN,PM,PQ] at hz ⊢;exact hz.doA _ (by show tx.toArray.size<=300000;rw[CV];omega)) (K5.trans t.2.1) (λe=>absurd e NE) (λG h=>by
           obtain⟨D0,d,h1,_,h4⟩:=GN.out G h;rw[DN,PM,PQ] at h1 ⊢;obtain⟨rfl,h5⟩:=SY h1 rfl;cases h5
           rw[h4,KT.out]))
       ·have KV:¬ (3:Int)<(l.length:Int):=by omega
        have S9:Hid (ASt L (w.heap.size+1) ZJ.heap.size (Z (T (Q C 0 U)) (y++[r]).length c) (y++[r])):=ZO.out;go_wp2;go_meet;exact(L6I.next bt SG S9 (SZ.up (F6 _)) K1 (λ_=>rfl) (λG h=>by obtain⟨_,_,_,h4,_⟩:=GN.out G h;exact absurd h4 h3))
    by_cases la:(af 32 l).1=[97,115,107]
    ·as_aux_lemma =>
      have HW:=ae la;have NE:Hid (l≠[]):=λe=>by have:=LE.out e;rw[la] at this;cases this
      rw[la] at e0;have ZB:=ae qr;go_wp2_with (at_builtin;refine BS _ rfl (.tmp 128) (.tmp 129) 30 rfl wr.heap.size 9 i0 (Y ⟨#[]⟩) 1 16 IB DE DQ DS Fd rfl (by decide) _ (aP 3 l).length (cK (aP 3 l)) (by simp[Act.eval]) (O1.alloc _) (Q L.heap.size 0 U) 2 2 [Y ⟨#[]⟩,Y ⟨#[]⟩] (by simp[Act.eval]) rfl (rP L _ _ _) (by simp[Value.oneCell']) (by unfold maxLen;omega) (by omega) (by simp;omega) ?_);intro v2 o b f ZI;have b:o.ownsRow wr.heap.size 9 1 v2 ((aP 3 l).length+2) (cK (aP 3 l++[[],[]])):=by rw[j7];exact b
      obtain⟨z,c2,rfl⟩:=dq b (by omega);have H2:=ae (bg ((dB wr.heap.size L).alloc ZB _) f (by simp;have:=ZB.out;omega) (λk e=>(O1.lt k e).1));have O2:=ae b;have l2:=(b.lt z rfl).2;have JT:=(b.lt z rfl).1;obtain⟨Hx,ZQ⟩:=oG l [];have y1:=dA b 1 (x:=(af 32 (af 32 l).2.1).1) (by rw[ZQ];rfl);have y2:=dA b 2 (x:=(af 32 (af 32 (af 32 l).2.1).2.1).1) (by rw[ZQ];rfl);have q2:(2:Int)<((aP 3 l).length:Int)+2:=by have:=p0;omega
      have q1:(1:Int)<((aP 3 l).length:Int)+2:=by omega
      have P:=ae (H1.trans H2);have ZO:=ae (ZM.aa P);have K1:=ae (SK.trans (KR.u P ly));have KO:=cy 32 (af 32 (af 32 l).2.1).2.1;clear b f ZI e0 r0 r1 X Bk P H2 O2;have r0:=ZO.G.c0;have r1:=ZO.G.fz;have X:=ZO.G.lt;have ro:=ZO.le;have Fn:=λV=>jS ⟨(af 32 (af 32 (af 32 l).2.1).2.1).1.toArray⟩ V (by show(af 32 (af 32 (af 32 l).2.1).2.1).1.length<=_;omega);have NU:Hid (∀V,Calls Pg 202 #[Y ⟨(af 32 (af 32 (af 32 l).2.1).2.1).1.toArray⟩] V λe w'=>e=ZF (J I (bQ 0 ((af 32 (af 32 (af 32 l).2.1).2.1).1.take 6)))/\w'=V):=Fn;clear Fn;rcases iX R with rfl|⟨y,r,rfl⟩
      {have GN:Hid (∀G,¬ Good (List.map (·.1) ([]:List DR)) l G):=λG h=>(by obtain⟨D0,d,h1,_⟩:=CL h HW;simp at h1);go_wp2;go_meet;exact(L6I.next bt SG ZO (SZ.up (F6 _)) K1 (λ_=>rfl) (λG h=>absurd h (GN G)))}
      ·have B:(y++[r]).length=y.length+1:=by simp
       have GN:=ae (λG (h:Good (List.map (·.1) (y++[r])) l G)=>CL h HW);have hr:=SZ.2 r.1 (by simp);have KH:=hr.a;have KJ:=hr.l;obtain⟨C,cd,DH⟩:=cC ZO.row.i (by rw[B];omega);cases DH
       rw[B] at r0 Ku;try rw[B]
       have ek:((y.length+1:Nat):Int) - 1=(y.length:Int):=by omega
       have KF:(y.length:Int)+1 - 1=(y.length:Int):=by omega
       have k5:(0:Int)<=(y.length:Int):=by omega
       have k6:(y.length:Int)<(y.length:Int)+1:=by omega
       clear hr;go_upto_region 25 with fail;have q:Hid (ASt o (w.heap.size+1) ZJ.heap.size (Z (T (Q C 0 U)) (y.length+1) c) (y++[r])):=by have:=ZO.out;rw[B] at this;exact this
       have K5:=K1;have cell:=cR (by rw[B];have:=q.row.i;rw[B] at this;exact this) (i:=y.length) (r:=r) (by simp) 5 (by omega) (u:=r.2.2) rfl;have m0:=cell.1;have th:=(q.row.i.lt C rfl).2;have ro:=q.le;have S:=ae (q.row.sub r (by simp)).V;obtain⟨av,cv,aq⟩:=cJ S;have dg:=ae aq;rw[aq] at m0;clear cell aq;have ZN:Hid (∀V:M,(∀k,k<o.heap.size->T k≠r.2.2.ownBlock->V.heap[k]?=o.heap[k]?)->A V (Q (w.heap.size+1) 0 U)=T (Z (T (Q C 0 U)) (y.length+1) c)/\A V (Q C (y.length*6+5) U)=T (Z av r.1.b cv)/\A V (Q z 1 U)=T (Y ⟨(af 32 (af 32 l).2.1).1.toArray⟩)/\A V (Q z 2 U)=T (Y ⟨(af 32 (af 32 (af 32 l).2.1).2.1).1.toArray⟩)):=λV F=>⟨(cq (a:=(Q (w.heap.size+1) 0 U)) (F (w.heap.size+1) X (λe=>by have h1:=(S.lt _ e.symm).1;have h2:=q.lt;omega))).trans r0,(cq (a:=(Q C (y.length*6+5) U)) (F (C) th (λe=>(bu q.row.i C rfl).ne (by decide) (bu S C e.symm)))).trans m0,(cq (a:=(Q z 1 U)) (F (z) l2 (λe=>by have h1:=((ZM.row.sub r (by simp)).V.lt _ e.symm).2;omega))).trans y1,(cq (a:=(Q z 2 U)) (F (z) l2 (λe=>by have h1:=((ZM.row.sub r (by simp)).V.lt _ e.symm).2;omega))).trans y2⟩
       have ZL:=ae (ZN o.drew (λk W _=>rfl));have H:Hid (Below o.heap.size o o.drew):=(dB _ o).drew;refine aD (λV=>A V (Q (w.heap.size+1) 0 U)=T (Z (T (Q C 0 U)) (y.length+1) c)/\A V (Q C (y.length*6+5) U)=T (Z av r.1.b cv)/\A V (Q z 1 U)=T (Y ⟨(af 32 (af 32 l).2.1).1.toArray⟩)/\A V (Q z 2 U)=T (Y ⟨(af 32 (af 32 (af 32 l).2.1).2.1).1.toArray⟩)) 21 (by kernel_rfl) ?_;iterate 15
        refine aI 0 (v:=?_) rfl rfl (by kernel_rfl) (λ_ _ _ h=>h) rfl ?_ ZL ?_;rotate_left
        ·(rintro wz ⟨s0,s1,s2,s3⟩;go_simp)
         (try with_reducible rfl)
        (try simp only[Act.put,nzL])
       refine ah (i:=15) rfl (by kernel_rfl) λK m=>?_;go_simp;go_at_call 202;refine(NU _).mono ?_;rintro e wN ⟨rfl,rfl⟩;refine m _ _ (λ_=>ZL) ?_;clear m K
       (try simp only[Act.put,nzL])
       refine aI 16 (v:=?_) rfl rfl (by kernel_rfl) (λ_ _ _ h=>h) rfl ?_ ZL ?_;rotate_left
       ·(rintro wz ⟨s0,s1,s2,s3⟩;go_simp)
        (try with_reducible rfl)
       (try simp only[Act.put,nzL])
       refine ah (i:=17) rfl (by kernel_rfl) λK m=>?_;go_simp;have O:=ae (H.alloc H.size (N #[Y ⟨(af 32 (af 32 l).2.1).1.toArray⟩,ZD ZG,ZD ZA,J I (bQ 0 ((af 32 (af 32 (af 32 l).2.1).2.1).1.take 6))] 91));refine m _ _ (λ_=>ZN _ (λk W _=>O.block k W)) ?_;clear m K
       (try simp only[Act.put,nzL])
       refine ah (i:=18) rfl (by kernel_rfl) λK m=>?_
       (refine aG rfl (.tmp 141) (.tmp 150) 44 rfl ZJ.heap.size 91 i3 (.agg #[Y ⟨#[]⟩,ZD ZA,ZD ZA,J I 0]) 4 32 QV Ky KE KD Kz rfl (by decide) (Z av r.1.b cv) r.1.b (bq r.1.D r.1.b) (by simp[Act.eval]) (by rw[<-dg.out];first|exact S.alloc _|exact S.drew.alloc _|exact S.drew.drew.alloc _|exact S.drew.drew.drew.alloc _) (Q o.heap.size 0 U) 1 1 [Y ⟨(af 32 (af 32 l).2.1).1.toArray⟩,ZD ZG,ZD ZA,J I (bQ 0 ((af 32 (af 32 (af 32 l).2.1).2.1).1.take 6))] (by simp[Act.eval]) rfl (by first|exact ey o _ _ _ _ _|exact ey o.drew _ _ _ _ _|exact ey o.drew.drew _ _ _ _ _|exact ey o.drew.drew.drew _ _ _ _ _) (by simp[Value.oneCell']) (by unfold maxLen;omega) (by omega) (by simp;omega) ?_;intro v6 w6 b f ZR;rw[<-dg.out] at f ZR;(first|have t:=ae (q.moreL (x:=⟨⟨(af 32 (af 32 l).2.1).1.toArray⟩,ZG,ZA,bQ 0 ((af 32 (af 32 (af 32 l).2.1).2.1).1.take 6)⟩) (dB _ o) b f ZR)|have t:=ae (q.moreL (x:=⟨⟨(af 32 (af 32 l).2.1).1.toArray⟩,ZG,ZA,bQ 0 ((af 32 (af 32 (af 32 l).2.1).2.1).1.take 6)⟩) (dB _ o).drew b f ZR)|have t:=ae (q.moreL (x:=⟨⟨(af 32 (af 32 l).2.1).1.toArray⟩,ZG,ZA,bQ 0 ((af 32 (af 32 (af 32 l).2.1).2.1).1.take 6)⟩) (dB _ o).drew.drew b f ZR)|have t:=ae (q.moreL (x:=⟨⟨(af 32 (af 32 l).2.1).1.toArray⟩,ZG,ZA,bQ 0 ((af 32 (af 32 (af 32 l).2.1).2.1).1.take 6)⟩) (dB _ o).drew.drew.drew b f ZR));obtain⟨a6,c6,rfl⟩:=cJ b;have k0:=t.2.2.1;have k1:=t.2.2.2.1;have k2:=t.2.2.2.2.1;have k3:=t.2.2.2.2.2.c0;have k4:=t.2.2.2.2.2.lt;rw[dg.out] at k0;have G6:=ae (ZN w6 (fW (by first|exact O|exact O.drew) f));clear b f ZR)
       refine m _ _ (λ_=>G6) ?_;clear m K
       (try simp only[Act.put,nzL])
       iterate 2
        refine cD 19 rfl rfl (by kernel_rfl) λK m=>?_;go_simp;refine m _ _ (λ_=>G6) ?_;clear m K
        (try simp only[Act.put,nzL])
       refine ah (i:=21) rfl (by kernel_rfl) λK m=>?_;go_simp;refine m _ _ (λh=>absurd rfl h) ?_;clear m K
       (try simp only[Act.put,nzL])
       refine aX (by kernel_rfl) ?_ _;go_simp;go_wp2;go_meet
       exact(L6I.next bt SG (t.1.len (by simp)) (by have hz:=SZ.out;rw[DN,PM,PQ] at hz ⊢;exact hz.lkA _ (by show(af 32 (af 32 l).2.1).1.toArray.size<=300000;rw[CV];omega)) (K5.trans t.2.1) (λe=>absurd e NE) (λG h=>by
         obtain⟨D0,d,h1,h4⟩:=GN.out G h;rw[DN,PM,PQ] at h1 ⊢;obtain⟨rfl,h5⟩:=SY h1 rfl;cases h5
         rw[h4]))
    by_cases ld:(af 32 l).1=[104,97,115]
    ·as_aux_lemma =>
      have HW:=ae ld;have NE:Hid (l≠[]):=λe=>by have:=LE.out e;rw[ld] at this;cases this
      rw[ld] at e0;have ZB:=ae qr;go_wp2_with (at_builtin;refine BS _ rfl (.tmp 156) (.tmp 157) 30 rfl wr.heap.size 9 i0 (Y ⟨#[]⟩) 1 16 IB DE DQ DS Fd rfl (by decide) _ (aP 3 l).length (cK (aP 3 l)) (by simp[Act.eval]) (O1.alloc _) (Q L.heap.size 0 U) 2 2 [Y ⟨#[]⟩,Y ⟨#[]⟩] (by simp[Act.eval]) rfl (rP L _ _ _) (by simp[Value.oneCell']) (by unfold maxLen;omega) (by omega) (by simp;omega) ?_);intro v2 o b f ZI;have b:o.ownsRow wr.heap.size 9 1 v2 ((aP 3 l).length+2) (cK (aP 3 l++[[],[]])):=by rw[j7];exact b
      obtain⟨z,c2,rfl⟩:=dq b (by omega);have H2:=ae (bg ((dB wr.heap.size L).alloc ZB _) f (by simp;have:=ZB.out;omega) (λk e=>(O1.lt k e).1));have O2:=ae b;have l2:=(b.lt z rfl).2;have JT:=(b.lt z rfl).1;obtain⟨Hx,ZQ⟩:=oG l [];have y1:=dA b 1 (x:=(af 32 (af 32 l).2.1).1) (by rw[ZQ];rfl);have y2:=dA b 2 (x:=(af 32 (af 32 (af 32 l).2.1).2.1).1) (by rw[ZQ];rfl);have q2:(2:Int)<((aP 3 l).length:Int)+2:=by have:=p0;omega
      have q1:(1:Int)<((aP 3 l).length:Int)+2:=by omega
      have P:=ae (H1.trans H2);have ZO:=ae (ZM.aa P);have K1:=ae (SK.trans (KR.u P ly));have KO:=cy 32 (af 32 (af 32 l).2.1).2.1;clear b f ZI e0 r0 r1 X Bk P H2 O2;have r0:=ZO.G.c0;have r1:=ZO.G.fz;have X:=ZO.G.lt;have ro:=ZO.le;rcases iX R with rfl|⟨y,r,rfl⟩
      {have GN:Hid (∀G,¬ Good (List.map (·.1) ([]:List DR)) l G):=λG h=>(by obtain⟨D0,d,h1,_⟩:=CN h HW;simp at h1);go_wp2;go_meet;exact(L6I.next bt SG ZO (SZ.up (F6 _)) K1 (λ_=>rfl) (λG h=>absurd h (GN G)))}
      ·have B:(y++[r]).length=y.length+1:=by simp
       have GN:=ae (λG (h:Good (List.map (·.1) (y++[r])) l G)=>CN h HW);have hr:=SZ.2 r.1 (by simp);have KH:=hr.a;have KJ:=hr.l;obtain⟨C,cd,DH⟩:=cC ZO.row.i (by rw[B];omega);cases DH
       rw[B] at r0 Ku;try rw[B]
       have ek:((y.length+1:Nat):Int) - 1=(y.length:Int):=by omega
       have KF:(y.length:Int)+1 - 1=(y.length:Int):=by omega
       have k5:(0:Int)<=(y.length:Int):=by omega
       have k6:(y.length:Int)<(y.length:Int)+1:=by omega
       clear hr;go_upto_region 29 with fail;have q:Hid (ASt o (w.heap.size+1) ZJ.heap.size (Z (T (Q C 0 U)) (y.length+1) c) (y++[r])):=by have:=ZO.out;rw[B] at this;exact this
       have K5:=K1;have cell:=cR (by rw[B];have:=q.row.i;rw[B] at this;exact this) (i:=y.length) (r:=r) (by simp) 5 (by omega) (u:=r.2.2) rfl;have m0:=cell.1;have th:=(q.row.i.lt C rfl).2;have ro:=q.le;have S:=ae (q.row.sub r (by simp)).V;obtain⟨av,cv,aq⟩:=cJ S;have dg:=ae aq;rw[aq] at m0;clear cell aq;have ZN:Hid (∀V:M,(∀k,k<o.heap.size->T k≠r.2.2.ownBlock->V.heap[k]?=o.heap[k]?)->A V (Q (w.heap.size+1) 0 U)=T (Z (T (Q C 0 U)) (y.length+1) c)/\A V (Q C (y.length*6+5) U)=T (Z av r.1.b cv)/\A V (Q z 1 U)=T (Y ⟨(af 32 (af 32 l).2.1).1.toArray⟩)/\A V (Q z 2 U)=T (Y ⟨(af 32 (af 32 (af 32 l).2.1).2.1).1.toArray⟩)):=λV F=>⟨(cq (a:=(Q (w.heap.size+1) 0 U)) (F (w.heap.size+1) X (λe=>by have h1:=(S.lt _ e.symm).1;have h2:=q.lt;omega))).trans r0,(cq (a:=(Q C (y.length*6+5) U)) (F (C) th (λe=>(bu q.row.i C rfl).ne (by decide) (bu S C e.symm)))).trans m0,(cq (a:=(Q z 1 U)) (F (z) l2 (λe=>by have h1:=((ZM.row.sub r (by simp)).V.lt _ e.symm).2;omega))).trans y1,(cq (a:=(Q z 2 U)) (F (z) l2 (λe=>by have h1:=((ZM.row.sub r (by simp)).V.lt _ e.symm).2;omega))).trans y2⟩
       have ZL:=ae (ZN o.drew (λk W _=>rfl));have H:Hid (Below o.heap.size o o.drew):=(dB _ o).drew;refine aD (λV=>A V (Q (w.heap.size+1) 0 U)=T (Z (T (Q C 0 U)) (y.length+1) c)/\A V (Q C (y.length*6+5) U)=T (Z av r.1.b cv)/\A V (Q z 1 U)=T (Y ⟨(af 32 (af 32 l).2.1).1.toArray⟩)/\A V (Q z 2 U)=T (Y ⟨(af 32 (af 32 (af 32 l).2.1).2.1).1.toArray⟩)) 21 (by kernel_rfl) ?_;iterate 17
        refine aI 0 (v:=?_) rfl rfl (by kernel_rfl) (λ_ _ _ h=>h) rfl ?_ ZL ?_;rotate_left
        ·(rintro wz ⟨s0,s1,s2,s3⟩;go_simp)
         (try with_reducible rfl)
        (try simp only[Act.put,nzL])
       refine ah (i:=17) rfl (by kernel_rfl) λK m=>?_;go_simp;have O:=ae (H.alloc H.size (N #[Y ⟨(af 32 (af 32 l).2.1).1.toArray⟩,ZD ZA,ZD ((af 32 (af 32 (af 32 l).2.1).2.1).1 == [49]),J I 0] 91));refine m _ _ (λ_=>ZN _ (λk W _=>O.block k W)) ?_;clear m K
       (try simp only[Act.put,nzL])
       refine ah (i:=18) rfl (by kernel_rfl) λK m=>?_
       (refine aG rfl (.tmp 169) (.tmp 178) 44 rfl ZJ.heap.size 91 i3 (.agg #[Y ⟨#[]⟩,ZD ZA,ZD ZA,J I 0]) 4 32 QV Ky KE KD Kz rfl (by decide) (Z av r.1.b cv) r.1.b (bq r.1.D r.1.b) (by simp[Act.eval]) (by rw[<-dg.out];first|exact S.alloc _|exact S.drew.alloc _|exact S.drew.drew.alloc _|exact S.drew.drew.drew.alloc _) (Q o.heap.size 0 U) 1 1 [Y ⟨(af 32 (af 32 l).2.1).1.toArray⟩,ZD ZA,ZD ((af 32 (af 32 (af 32 l).2.1).2.1).1 == [49]),J I 0] (by simp[Act.eval]) rfl (by first|exact ey o _ _ _ _ _|exact ey o.drew _ _ _ _ _|exact ey o.drew.drew _ _ _ _ _|exact ey o.drew.drew.drew _ _ _ _ _) (by simp[Value.oneCell']) (by unfold maxLen;omega) (by omega) (by simp;omega) ?_;intro v6 w6 b f ZR;rw[<-dg.out] at f ZR;(first|have t:=ae (q.moreL (x:=⟨⟨(af 32 (af 32 l).2.1).1.toArray⟩,ZA,(af 32 (af 32 (af 32 l).2.1).2.1).1 == [49],0⟩) (dB _ o) b f ZR)|have t:=ae (q.moreL (x:=⟨⟨(af 32 (af 32 l).2.1).1.toArray⟩,ZA,(af 32 (af 32 (af 32 l).2.1).2.1).1 == [49],0⟩) (dB _ o).drew b f ZR)|have t:=ae (q.moreL (x:=⟨⟨(af 32 (af 32 l).2.1).1.toArray⟩,ZA,(af 32 (af 32 (af 32 l).2.1).2.1).1 == [49],0⟩) (dB _ o).drew.drew b f ZR)|have t:=ae (q.moreL (x:=⟨⟨(af 32 (af 32 l).2.1).1.toArray⟩,ZA,(af 32 (af 32 (af 32 l).2.1).2.1).1 == [49],0⟩) (dB _ o).drew.drew.drew b f ZR));obtain⟨a6,c6,rfl⟩:=cJ b;have k0:=t.2.2.1;have k1:=t.2.2.2.1;have k2:=t.2.2.2.2.1;have k3:=t.2.2.2.2.2.c0;have k4:=t.2.2.2.2.2.lt;rw[dg.out] at k0;have G6:=ae (ZN w6 (fW (by first|exact O|exact O.drew) f));clear b f ZR)
       refine m _ _ (λ_=>G6) ?_;clear m K
       (try simp only[Act.put,nzL])
       iterate 2
        refine cD 19 rfl rfl (by kernel_rfl) λK m=>?_;go_simp;refine m _ _ (λ_=>G6) ?_;clear m K
        (try simp only[Act.put,nzL])
       refine ah (i:=21) rfl (by kernel_rfl) λK m=>?_;go_simp;refine m _ _ (λh=>absurd rfl h) ?_;clear m K
       (try simp only[Act.put,nzL])
       refine aX (by kernel_rfl) ?_ _;go_simp;go_wp2;go_meet
       exact(L6I.next bt SG (t.1.len (by simp)) (by have hz:=SZ.out;rw[DN,PM,PQ] at hz ⊢;exact hz.lkA _ (by show(af 32 (af 32 l).2.1).1.toArray.size<=300000;rw[CV];omega)) (K5.trans t.2.1) (λe=>absurd e NE) (λG h=>by
         obtain⟨D0,d,h1,h4⟩:=GN.out G h;rw[DN,PM,PQ] at h1 ⊢;obtain⟨rfl,h5⟩:=SY h1 rfl;cases h5
         rw[h4]))
    have m_src:((af 32 l).1 == [115,111,117,114,99,101])=ZA:=by simpa using fd
    have m_non:((af 32 l).1 == [110,111,110,101])=ZA:=by simpa using ph
    have m_tgt:((af 32 l).1 == [116,97,114,103,101,116])=ZA:=by simpa using mv
    have m_do:((af 32 l).1 == [100,111])=ZA:=by simpa using sm
    have m_ask:((af 32 l).1 == [97,115,107])=ZA:=by simpa using la
    have m_has:((af 32 l).1 == [104,97,115])=ZA:=by simpa using ld
    have GO:=ae (λG (h:Good (R.map (·.1)) l G)=>Fx h fd ph mv sm la ld);go_wp2;go_meet;exact(L6I.next bt SG ZO (SZ.up (F6 _)) K1 (λ_=>rfl) (λG h=>(GO G h).symm))
   case rest =>
   have HN:=ae hcut.out;clear hcut;go_wp2;exact⟨⟨j+1,by omega,by go_num,HN⟩,by simp[intOf];omega⟩
  ·obtain rfl:j=ls.length:=by omega
   have S9:=ae (ZM);have cb:=ZM.G.c0;have bk:=ae ((SK.keep w.heap.size (by omega) (by omega) (.inl (by omega))).trans BW);have b0:=(AcB.c0 bk)
   have b1:=(AcB.fz bk)
   have b2:=(AcB.lt bk)
   have BF:=ae (AcB.set bk (Z a R.length c));have AF:=ae ((AW.trans (SK.aa (n:=w.heap.size) (by omega) (by omega) (by omega))).setCell (p:=(Q w.heap.size 0 U)) ly (Z a R.length c));have DF:=ae ((ZM.row.set (p:=(Q w.heap.size 0 U)) (e:=0) (.inl (by show w.heap.size<ZJ.heap.size;omega)) (Z a R.length c)).mono (show w.heap.size+2<=ZJ.heap.size by omega));go_wp2;try simp only[Exit.inBlock,Exit.then]
   refine bp (Gh rfl _ _ w.heap.size _ rfl BF) rfl ?_;refine⟨AF,a,c,R,rfl,DF,SZ.up (by omega),λE hE=>?_⟩;have h:=SG.out E hE;rw[List.drop_length] at h;exact h
