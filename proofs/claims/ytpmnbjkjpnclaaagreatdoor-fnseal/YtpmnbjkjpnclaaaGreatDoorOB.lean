import Derived.Deep.CutBlock
import Derived.Test.YtpmnbjkjpnclaaaGreatDoorOA
import Derived.BigRegion
import Derived.Test.YtpmnbjkjpnclaaaGreatDoorQE
set_option maxRecDepth 100000
set_option maxHeartbeats 40000000
open Go renaming Addr.mk->Q,Value.slice->Z,Value.string->U,Value.int->N,Value.bool->ZD,Value.agg->ZH,Obj.cells->J,IntKind.i64->I,World->M,Value->ZC,Ending.returned->ZF,World.cell?->A,Proofs.Tryz.prog->Pg
open Option renaming none->Y,some->T
open Bool renaming false->ZA,true->ZG
namespace Go.Proofs.YtpmnbjkjpnclaaaGreatDoor.Vp
open Tryz RowKit Ca
variable {b c n:Nat}{w:M}{R:List DR}
def L6I (h wr:M)(b f:Nat)(g:List (List UInt8))(j:Nat):Prop :=
 ∃a c R,ASt wr b f (Z a R.length c) R/\SzD j (R.map (·.1))/\(∀E,bB [] (tL g) E->bB (R.map (·.1)) (tL (g.drop j)) E)/\KR b f h wr
theorem L6I.next{m g:M}{j:Nat}{h:List (List UInt8)}{f:List DR}{n:Option Addr}{o:Nat}{l:List UInt8}(u:h[j]?=T l)(p:∀E,bB [] (tL h) E->bB (R.map (·.1)) (tL (h.drop j)) E)
  (s:ASt g b c (Z n f.length o) f) (r:SzD (j+1) (f.map (·.1))) (q:KR b c m g) (h1:l=[]->f.map (·.1)=R.map (·.1)) (h2:∀G,Good (R.map (·.1)) l G->f.map (·.1)=G):L6I m g b c h (j+1):=by
 refine⟨n,o,f,s,r,λE x=>?_,q⟩;have h3:=p E x;obtain⟨t,i⟩:=n8.1 u;rw[RB t,i] at h3;exact IC h1 h2 h3
theorem fX{W ZL V:M}{row:Option Nat}(c:Below W.heap.size W ZL)(f:ZL.grownBy V row):∀k,k<W.heap.size->T k≠row->V.heap[k]?=W.heap[k]?:=λk b hn=>(f.block k (lj b c.size) hn).trans (c.block k b)
theorem ASt.len{f:Nat}{a:Option Addr}(h:ASt w b f (Z a n c) R)(hn:R.length=n):ASt w b f (Z a R.length c) R:=by rw[hn];exact h
theorem AcB.aa{c:M}{B:Nat}{v:ZC}(h:AcB w b v)(hb:Below B w c)(f:b<B):AcB c b v:=(hb.block b f).trans h
theorem Gp{fn:Func}{p:Tmp}(h:fn.results=#[.cell p 37])(tmps:Array ZC)(w:M)(g:Nat)(v:ZC)(b:tmps.getD p undef=.pointer (T (Q g 0 Y)))(c:AcB w g v):(results fn tmps).run Pg w=.ok (ZH #[v]) w :=
 results_cell_row h tmps w g 37 #[v] (0,0) _ b c underlying37 rfl (show(Pg.info? 37).map (·.size)=T 1 by kernel_rfl)
theorem dC{g cap:Nat}{L:List (List UInt8)}(h:w.ownsRow b 9 1 (Z (T (Q g 0 Y)) n cap) n (cK L))(k:Nat){x:List UInt8}(c:L[k]?=T x):A w (Q g k Y)=T (U ⟨x.toArray⟩):=by have h1:=UR h (g:=g) rfl k (U ⟨x.toArray⟩) (by simp[cK,c]);rwa[addr_add,FM] at h1
theorem j8 (L ZR:List (List UInt8)):cK (L++ZR)=cK L++cK ZR:=by simp[cK]
theorem rS (w:M)(x y:ZC)(t:TypeId):∀j u,[x,y][j]?=T u->(w.alloc (J #[x,y] t)).cell? (((Q w.heap.size 0 Y):Addr).add j)=T u:=by intro j u b;rw[addr_add,FM];exact jk w _ t w.heap.size j u rfl (by simpa using b)
theorem xH (x:List UInt8):∃(op:Int) (tx:List UInt8) (b:Int) (c:Bool),zv (bF x)=.tuple #[ZH #[N I op,U ⟨tx.toArray⟩,N I b],ZD c]/\GJ (bF x)=⟨op,⟨tx.toArray⟩,b⟩/\tx.length<=2000:=by
 cases h:bF x with
 |some i =>
  refine⟨i.1,i.2.1,i.2.2,ZG,rfl,rfl,?_⟩;have h1:=ee (vG h);have h2:aE i.1<=2000:=by unfold aE;split<;>omega
  omega
 |none=>exact⟨0,[],0,ZA,rfl,rfl,E4 _⟩
theorem ww (s:List UInt8):(be (bS s)).length<=s.length:=by
 have h1:=kl (bS s);have h2:(bS s).length<=s.length:=by unfold bS;rw[OR,LK];omega
 omega
theorem Ay (s:ByteArray)(w:M)(hs:s.size<=300000):Calls Pg 143 #[U s] w λe w'=>Below w.heap.size w w'/\∃a c R,e=ZF (ZH #[Z a R.length c])/\DRow w' (w.heap.size+2) (Z a R.length c) R/\SzD 300001 (R.map (·.1))/\∀E,bB [] (tL (aL s.data.toList)) E->R.map (·.1)=E:=by
 have A0:=ae (((q9 w).alloc ly (J #[Z Y 0 0] 37)).alloc (by simp) (J #[Z Y 0 0] 37));have F:Hid (AcB ((w.alloc (J #[Z Y 0 0] 37)).alloc (J #[Z Y 0 0] 37)) w.heap.size (Z Y 0 0)):=by show _=_;rw[QR _ _ (by simp)];exact nL w _
 have C0:Hid (AcB ((w.alloc (J #[Z Y 0 0] 37)).alloc (J #[Z Y 0 0] 37)) (w.heap.size+1) (Z Y 0 0)):=UY w _ _;have LC:=ae (λV=>Bo s V (by omega));have LA:=ae (qL s.data.toList.length s.data.toList ly);have hsl:s.data.toList.length=s.size:=aO s;generalize aL s.data.toList=ls at LC LA ⊢;have LM:Hid (∀l∈ls,l.length<=300000):=λl hl=>by have:=(LA.1 l hl).2;omega
 have hln:ls.length<=300001:=by have:=LA.2;omega
 clear LA;obtain⟨i0,Fd,DQ,DH,DS⟩:=kQ o9;obtain⟨i1,hi,KZ,La,Lb⟩:=OB fm;obtain⟨i2,Lv,Lx,Lr,Lu⟩:=OB lm;obtain⟨i3,Lh,Lg,Ld,Lj⟩:=OB iC;go_enter func143,ntmps143;go_wp2_with fail;generalize (w.alloc (J #[Z Y 0 0] 37)).alloc (J #[Z Y 0 0] 37)=V0 at A0 F C0 ⊢;have zV:w.heap.size+1<V0.heap.size:=C0.lt;refine(LC V0).mono ?_;rintro e ZM ⟨g,cap,rfl,hO,_,hB⟩;have AW:=ae (A0.trans (hB.mono A0.size));have BW:=ae (F.aa hB (by omega));have CW:=ae (C0.aa hB (by omega));have LO:=ae hO;have zW:V0.heap.size<=ZM.heap.size:=hB.size;have gW:g<ZM.heap.size:=(hO.lt g rfl).2;have I0:Hid (L6I ZM ZM (w.heap.size+1) ZM.heap.size ls 0):=⟨Y,0,[],⟨CW,cA _ _,by omega,n6 _⟩,SzD.nil _,λE hE=>hE,KR.refl _ _ _⟩
 clear hB hO A0 F C0 LC CW;go_wp2;go_loopw [5,6,7,8,9] (λiv _ _ _ _ wr=>∃j:Nat,j<=ls.length/\iv=N I j/\Hid (L6I ZM wr (w.heap.size+1) ZM.heap.size ls j)) (λiv _ _ _ _ _=>ls.length - (intOf iv).toNat);case atStart=>exact⟨0,by omega,rfl,I0⟩
 case round =>
  obtain⟨j,hj,rfl,HI⟩:=hrel;obtain⟨a,c,R,hA,hZ,hG,m⟩:=HI.out;have P:=ae hA;have SZ:=ae hZ;have SG:=ae hG;have SK:=ae m;have JT:R.length<=j:=by have:=hZ.1;simpa using this
  have zr:=m.size;have r0:=hA.ab.c0;have X:=hA.ab.lt;clear hA hZ hG m HI;by_cases Lz:j<ls.length
  ·obtain⟨l,hl⟩:∃l,ls[j]?=T l:=⟨_,gq Lz⟩
   have dg:=ae hl;have hll:=LM.out l (LD hl);have cl:A wr (Q g j Y)=T (U ⟨l.toArray⟩):=(cq (a:=(Q g j Y)) (SK.keep g gW (by have:=(LO.lt g rfl).1;omega) (.inl gW))).trans (dC LO j hl);have gl:g<wr.heap.size:=by omega
   have hlt2:(j:Int)<ls.length:=by omega
   clear hl;go_upto_block 1 with fail;go_cut [] (λwx=>Hid (L6I ZM wx (w.heap.size+1) ZM.heap.size ls (j+1)));case first =>
    go_wp2_with fail;refine(oE ⟨l.toArray⟩ 3 (by omega) wr (by show l.length<=_;omega)).mono ?_;rintro e L ⟨g1,c1,rfl,ur,B,th⟩;have ur:L.ownsRow wr.heap.size 9 1 (Z (T (Q g1 0 Y)) (aP 3 l).length c1) (aP 3 l).length (cK (aP 3 l)):=ur;have B:(aP 3 l).length<=4:=B;have H1:=ae th;have O1:=ae ur;have ZO:=ae (P.aa th);have K1:=ae (SK.trans (KR.u th ly));obtain⟨LG,KV⟩:=sU 3 (by omega) l;have e0:=dC ur 0 (x:=(af 32 l).1) (by rw[KV];rfl);have p0:(0:Int)<((aP 3 l).length:Int):=by rw[KV];simp only[eL];omega
    have l1:=(ur.lt g1 rfl).2;have g1r:=(ur.lt g1 rfl).1;have Bk:=(th.cell (p:=(Q g j Y)) gl).trans cl;have gl1:g<L.heap.size:=lj gl th.size;have qr:=th.size;have hcl:=cy 32 l;have hcl2:=cy 32 (af 32 l).2.1;have hcl3:=cy 32 (af 32 (af 32 l).2.1).2.1;clear ur th r0 X cl KV LG;have r0:=ZO.ab.c0;have r1:=ZO.ab.fz;have X:=ZO.ab.lt;have LE:=ae (λ(e:l=[])=>show(af 32 l).1=[] by rw[e];rfl);by_cases ld:(af 32 l).1=[115,111,117,114,99,101]
    ·have HW:=ae ld;have NE:Hid (l≠[]):=λe=>by have:=LE.out e;rw[ld] at this;cases this
     rw[ld] at e0;go_wp2_with fail;refine(oE ⟨l.toArray⟩ 2 (by omega) L (by show l.length<=_;omega)).mono ?_;rintro e o ⟨z,c2,rfl,Hx,Lf,mv⟩;have Hx:o.ownsRow L.heap.size 9 1 (Z (T (Q z 0 Y)) (aP 2 l).length c2) (aP 2 l).length (cK (aP 2 l)):=Hx;have Lf:(aP 2 l).length<=4:=Lf;have O2:=ae Hx;have Lm:=ae mv;have ZB:=ae mv.size;have zb2:=mv.size;clear Hx mv;go_wp2_with (at_builtin;refine BS _ rfl (.tmp 37) (.tmp 38) 30 rfl L.heap.size 9 i0 (U ⟨#[]⟩) 1 16 IB Fd DQ DH DS rfl (by decide) _ (aP 2 l).length (cK (aP 2 l)) (by simp[Act.eval]) (O2.alloc _) (Q o.heap.size 0 Y) 2 2 [U ⟨#[]⟩,U ⟨#[]⟩] (by simp[Act.eval]) rfl (rS o _ _ _) (by simp[Value.oneCell']) (by unfold maxLen;omega) (by omega) (by simp;omega) ?_);intro v3 ZQ b f ZK;have b:ZQ.ownsRow L.heap.size 9 1 v3 ((aP 2 l).length+2) (cK (aP 2 l++[[],[]])):=by rw[j8];exact b
     obtain⟨g3,c3,rfl⟩:=dr b (by omega);have H3:=ae (bg ((dB L.heap.size o).alloc ZB _) f (by simp;have:=ZB.out;omega) (λk e=>(O2.lt k e).1));have O3:=ae b;have l3:=(b.lt g3 rfl).2;have g3r:=(b.lt g3 rfl).1;obtain⟨GS,O⟩:=sW l;have y1:=dC b 1 (x:=(af 32 (af 32 l).2.1).1) (by rw[O];rfl);have y2:=dC b 2 (x:=(af 32 (af 32 l).2.1).2.1) (by rw[O];rfl);have q2:(2:Int)<((aP 2 l).length:Int)+2:=by have:=wA List.length O;rw[cM] at this;simp only[eL,nX] at this;omega
     have q1:(1:Int)<((aP 2 l).length:Int)+2:=by omega
     have S:=ae (H1.trans ((Lm.trans H3).mono qr));have SL:=ae (P.aa S);have KL:=ae (SK.trans (KR.u S ly));clear b f ZK e0 r0 r1 X Bk S;have r0:=SL.ab.c0;have r1:=SL.ab.fz;have X:=SL.ab.lt;have At:=SL.le;have GN:=ae (λG (h:Good (R.map (·.1)) l G)=>JI h HW);have Fk:=λV=>jo ⟨(af 32 (af 32 l).2.1).2.1.toArray⟩ V (by show(af 32 (af 32 l).2.1).2.1.length<=_;omega);have UQ:Hid (∀V,Calls Pg 201 #[U ⟨(af 32 (af 32 l).2.1).2.1.toArray⟩] V λe w'=>e=ZF (U ⟨(be (bS (af 32 (af 32 l).2.1).2.1)).toArray⟩)/\Below V.heap.size V w'):=Fk;have ul:=ww (af 32 (af 32 l).2.1).2.1;clear Fk O2 Lm H3 O3;go_upto_region 11 with fail;have ZP:Hid (∀V:M,(∀k,k<ZQ.heap.size->T k≠(Value.slice a R.length c).ownBlock->V.heap[k]?=ZQ.heap[k]?)->A V (Q (w.heap.size+1) 0 Y)=T (Z a R.length c)/\A V (Q g3 1 Y)=T (U ⟨(af 32 (af 32 l).2.1).1.toArray⟩)/\A V (Q g3 2 Y)=T (U ⟨(af 32 (af 32 l).2.1).2.1.toArray⟩)):=λV H=>⟨(cq (a:=(Q (w.heap.size+1) 0 Y)) (H (w.heap.size+1) X (λe=>by have h1:=(SL.row.i.lt _ e.symm).1;have h2:=SL.lt;omega))).trans r0,(cq (a:=(Q g3 1 Y)) (H (g3) l3 (λe=>by have h1:=(P.row.i.lt _ e.symm).2;omega))).trans y1,(cq (a:=(Q g3 2 Y)) (H (g3) l3 (λe=>by have h1:=(P.row.i.lt _ e.symm).2;omega))).trans y2⟩
     have W:=ae (ZP ZQ.drew (λk ZL _=>rfl));have F:Hid (Below ZQ.heap.size ZQ ZQ.drew):=(dB _ ZQ).drew;refine aD (λV=>A V (Q (w.heap.size+1) 0 Y)=T (Z a R.length c)/\A V (Q g3 1 Y)=T (U ⟨(af 32 (af 32 l).2.1).1.toArray⟩)/\A V (Q g3 2 Y)=T (U ⟨(af 32 (af 32 l).2.1).2.1.toArray⟩)) 13 (by kernel_rfl) ?_;iterate 8
      refine aJ 0 (v:=?_) rfl rfl (by kernel_rfl) (λ_ _ _ h=>h) rfl ?_ W ?_;rotate_left
      ·(rintro wz ⟨s0,s1,s2⟩;go_simp)
       (try with_reducible rfl)
      (try simp only[Act.put,nzL])
     refine ah (i:=8) rfl (by kernel_rfl) λK m=>?_;go_simp;go_at_call 201;refine(UQ _).mono ?_;rintro e ZJ ⟨rfl,DE⟩;have D5:=ae (F.trans (DE.mono F.size));have q:=ae (SL.aa D5);have K5:=ae (KL.trans (KR.u D5 ly));replace F:=D5;replace W:=ae (ZP _ (λk ZL _=>D5.block k ZL));have Lq:=q.le;clear DE;refine m _ _ (λ_=>W) ?_;clear m K
     (try simp only[Act.put,nzL])
     refine aJ 9 (v:=?_) rfl rfl (by kernel_rfl) (λ_ _ _ h=>h) rfl ?_ W ?_;rotate_left
     ·(rintro wz ⟨s0,s1,s2⟩;go_simp)
      (try with_reducible rfl)
     (try simp only[Act.put,nzL])
     refine ah (i:=10) rfl (by kernel_rfl) λK m=>?_;go_simp;have ZR:=ae (F.alloc F.size (J #[U ⟨(af 32 (af 32 l).2.1).1.toArray⟩,N I 1,N I 0,U ⟨(be (bS (af 32 (af 32 l).2.1).2.1)).toArray⟩,Z Y 0 0,Z Y 0 0] 46));refine m _ _ (λ_=>ZP _ (λk ZL _=>ZR.block k ZL)) ?_;clear m K
     (try simp only[Act.put,nzL])
     refine ah (i:=11) rfl (by kernel_rfl) λK m=>?_
     (refine aG rfl (.tmp 41) (.tmp 50) 35 rfl ZM.heap.size 46 i1 (ZH #[U ⟨#[]⟩,N I 0,N I 0,U ⟨#[]⟩,Z Y 0 0,Z Y 0 0]) 6 96 PF hi KZ La Lb rfl (by decide) (Z a R.length c) R.length (R.flatMap ddV) (by simp[Act.eval]) (by first|exact q.row.i.alloc _|exact q.row.i.drew.alloc _|exact q.row.i.drew.drew.alloc _|exact q.row.i.drew.drew.drew.alloc _) (Q ZJ.heap.size 0 Y) 1 1 [U ⟨(af 32 (af 32 l).2.1).1.toArray⟩,N I 1,N I 0,U ⟨(be (bS (af 32 (af 32 l).2.1).2.1)).toArray⟩,Z Y 0 0,Z Y 0 0] (by simp[Act.eval]) rfl (by first|exact dP ZJ _ _ _ _ _ _ _|exact dP ZJ.drew _ _ _ _ _ _ _|exact dP ZJ.drew.drew _ _ _ _ _ _ _|exact dP ZJ.drew.drew.drew _ _ _ _ _ _ _) (by simp[Value.oneCell']) (by unfold maxLen;omega) (by omega) (by simp;omega) ?_;intro v6 w6 b f ZS;(first|have t:=ae (q.ao (dB _ ZJ) b f)|have t:=ae (q.ao (dB _ ZJ).drew b f)|have t:=ae (q.ao (dB _ ZJ).drew.drew b f)|have t:=ae (q.ao (dB _ ZJ).drew.drew.drew b f));obtain⟨a6,c6,rfl⟩:=cJ b;have k0:=t.2.2.c0;have k1:=t.2.2.fz;have k2:=t.2.2.lt;have G6:=ae (ZP w6 (fX (by first|exact ZR|exact ZR.drew) f));clear b f ZS)
     refine m _ _ (λ_=>G6) ?_;clear m K
     (try simp only[Act.put,nzL])
     refine ah (i:=12) rfl (by kernel_rfl) λK m=>?_;go_simp;refine m _ _ (λ_=>G6) ?_;clear m K
     (try simp only[Act.put,nzL])
     refine ah (i:=13) rfl (by kernel_rfl) λK m=>?_;go_simp;refine m _ _ (λh=>absurd rfl h) ?_;clear m K
     (try simp only[Act.put,nzL])
     refine aX (by kernel_rfl) ?_ _;go_simp;go_wp2;go_meet;exact(L6I.next dg SG (t.1.len (by simp)) (by rw[DN];exact SZ.new _ _ _ _ (by show(af 32 (af 32 l).2.1).1.toArray.size<=300000;rw[CV];omega) (by show(be (bS (af 32 (af 32 l).2.1).2.1)).toArray.size<=300000;rw[CV];omega)) (K5.trans t.2.1) (λe=>absurd e NE) (λG h=>by rw[GN.out G h];simp))
    by_cases ph:(af 32 l).1=[110,111,110,101]
    ·have HW:=ae ph;have NE:Hid (l≠[]):=λe=>by have:=LE.out e;rw[ph] at this;cases this
     rw[ph] at e0;have ZB:=ae qr;go_wp2_with (at_builtin;refine BS _ rfl (.tmp 55) (.tmp 56) 30 rfl wr.heap.size 9 i0 (U ⟨#[]⟩) 1 16 IB Fd DQ DH DS rfl (by decide) _ (aP 3 l).length (cK (aP 3 l)) (by simp[Act.eval]) (O1.alloc _) (Q L.heap.size 0 Y) 1 1 [U ⟨#[]⟩] (by simp[Act.eval]) rfl (cu L _ _) (by simp[Value.oneCell']) (by unfold maxLen;omega) (by omega) (by simp;omega) ?_);intro v2 o b f ZK;have b:o.ownsRow wr.heap.size 9 1 v2 ((aP 3 l).length+1) (cK (aP 3 l++[[]])):=by rw[j8];exact b
     obtain⟨z,c2,rfl⟩:=dr b (by omega);have H2:=ae (bg ((dB wr.heap.size L).alloc ZB _) f (by simp;have:=ZB.out;omega) (λk e=>(O1.lt k e).1));have O2:=ae b;have l2:=(b.lt z rfl).2;have Lc:=(b.lt z rfl).1;obtain⟨GS,O⟩:=sV 3 (by omega) l [];have y1:=dC b 1 (x:=(af 32 (af 32 l).2.1).1) (by rw[O];rfl);have q1:(1:Int)<((aP 3 l).length:Int)+1:=by have:=p0;omega
     have S:=ae (H1.trans H2);have q:=ae (P.aa S);have K5:=ae (SK.trans (KR.u S ly));clear b f ZK e0 r0 r1 X Bk;have r0:=q.ab.c0;have r1:=q.ab.fz;have X:=q.ab.lt;have At:=q.le;have GN:=ae (λG (h:Good (R.map (·.1)) l G)=>JJ h HW);go_upto_region 14 with fail;have ZP:Hid (∀V:M,(∀k,k<o.heap.size->T k≠(Value.slice a R.length c).ownBlock->V.heap[k]?=o.heap[k]?)->A V (Q (w.heap.size+1) 0 Y)=T (Z a R.length c)/\A V (Q z 1 Y)=T (U ⟨(af 32 (af 32 l).2.1).1.toArray⟩)):=λV H=>⟨(cq (a:=(Q (w.heap.size+1) 0 Y)) (H (w.heap.size+1) X (λe=>by have h1:=(q.row.i.lt _ e.symm).1;have h2:=q.lt;omega))).trans r0,(cq (a:=(Q z 1 Y)) (H (z) l2 (λe=>by have h1:=(P.row.i.lt _ e.symm).2;omega))).trans y1⟩
     have W:=ae (ZP o.drew (λk ZL _=>rfl));have F:Hid (Below o.heap.size o o.drew):=(dB _ o).drew;refine aD (λV=>A V (Q (w.heap.size+1) 0 Y)=T (Z a R.length c)/\A V (Q z 1 Y)=T (U ⟨(af 32 (af 32 l).2.1).1.toArray⟩)) 9 (by kernel_rfl) ?_;iterate 6
      refine aJ 0 (v:=?_) rfl rfl (by kernel_rfl) (λ_ _ _ h=>h) rfl ?_ W ?_;rotate_left
      ·(rintro wz ⟨s0,s1⟩;go_simp)
       (try with_reducible rfl)
      (try simp only[Act.put,nzL])
     refine ah (i:=6) rfl (by kernel_rfl) λK m=>?_;go_simp;have ZR:=ae (F.alloc F.size (J #[U ⟨(af 32 (af 32 l).2.1).1.toArray⟩,N I 2,N I 0,U ⟨#[]⟩,Z Y 0 0,Z Y 0 0] 46));refine m _ _ (λ_=>ZP _ (λk ZL _=>ZR.block k ZL)) ?_;clear m K
     (try simp only[Act.put,nzL])
     refine ah (i:=7) rfl (by kernel_rfl) λK m=>?_
     (refine aG rfl (.tmp 59) (.tmp 64) 35 rfl ZM.heap.size 46 i1 (ZH #[U ⟨#[]⟩,N I 0,N I 0,U ⟨#[]⟩,Z Y 0 0,Z Y 0 0]) 6 96 PF hi KZ La Lb rfl (by decide) (Z a R.length c) R.length (R.flatMap ddV) (by simp[Act.eval]) (by first|exact q.row.i.alloc _|exact q.row.i.drew.alloc _|exact q.row.i.drew.drew.alloc _|exact q.row.i.drew.drew.drew.alloc _) (Q o.heap.size 0 Y) 1 1 [U ⟨(af 32 (af 32 l).2.1).1.toArray⟩,N I 2,N I 0,U ⟨#[]⟩,Z Y 0 0,Z Y 0 0] (by simp[Act.eval]) rfl (by first|exact dP o _ _ _ _ _ _ _|exact dP o.drew _ _ _ _ _ _ _|exact dP o.drew.drew _ _ _ _ _ _ _|exact dP o.drew.drew.drew _ _ _ _ _ _ _) (by simp[Value.oneCell']) (by unfold maxLen;omega) (by omega) (by simp;omega) ?_;intro v6 w6 b f ZS;(first|have t:=ae (q.ao (dB _ o) b f)|have t:=ae (q.ao (dB _ o).drew b f)|have t:=ae (q.ao (dB _ o).drew.drew b f)|have t:=ae (q.ao (dB _ o).drew.drew.drew b f));obtain⟨a6,c6,rfl⟩:=cJ b;have k0:=t.2.2.c0;have k1:=t.2.2.fz;have k2:=t.2.2.lt;have G6:=ae (ZP w6 (fX (by first|exact ZR|exact ZR.drew) f));clear b f ZS)
     refine m _ _ (λ_=>G6) ?_;clear m K
     (try simp only[Act.put,nzL])
     refine ah (i:=8) rfl (by kernel_rfl) λK m=>?_;go_simp;refine m _ _ (λ_=>G6) ?_;clear m K
     (try simp only[Act.put,nzL])
     refine ah (i:=9) rfl (by kernel_rfl) λK m=>?_;go_simp;refine m _ _ (λh=>absurd rfl h) ?_;clear m K
     (try simp only[Act.put,nzL])
     refine aX (by kernel_rfl) ?_ _;go_simp;go_wp2;go_meet;exact(L6I.next dg SG (t.1.len (by simp)) (by rw[DN];exact SZ.new _ _ _ _ (by show(af 32 (af 32 l).2.1).1.toArray.size<=300000;rw[CV];omega) (by exact E4 _)) (K5.trans t.2.1) (λe=>absurd e NE) (λG h=>by rw[GN.out G h];simp))
    by_cases la:(af 32 l).1=[116,97,114,103,101,116]
    ·have HW:=ae la;have NE:Hid (l≠[]):=λe=>by have:=LE.out e;rw[la] at this;cases this
     rw[la] at e0;have ZB:=ae qr;go_wp2_with (at_builtin;refine BS _ rfl (.tmp 69) (.tmp 70) 30 rfl wr.heap.size 9 i0 (U ⟨#[]⟩) 1 16 IB Fd DQ DH DS rfl (by decide) _ (aP 3 l).length (cK (aP 3 l)) (by simp[Act.eval]) (O1.alloc _) (Q L.heap.size 0 Y) 3 3 [U ⟨#[]⟩,U ⟨#[]⟩,U ⟨#[]⟩] (by simp[Act.eval]) rfl (fO L _ _ _ _) (by simp[Value.oneCell']) (by unfold maxLen;omega) (by omega) (by simp;omega) ?_);intro v2 o b f ZK;have b:o.ownsRow wr.heap.size 9 1 v2 ((aP 3 l).length+3) (cK (aP 3 l++[[],[],[]])):=by rw[j8];exact b
     obtain⟨z,c2,rfl⟩:=dr b (by omega);have H2:=ae (bg ((dB wr.heap.size L).alloc ZB _) f (by simp;have:=ZB.out;omega) (λk e=>(O1.lt k e).1));have O2:=ae b;have l2:=(b.lt z rfl).2;have Lc:=(b.lt z rfl).1;obtain⟨GS,O⟩:=CR l;have y1:=dC b 1 (x:=(af 32 (af 32 l).2.1).1) (by rw[O];rfl);have y2:=dC b 2 (x:=(af 32 (af 32 (af 32 l).2.1).2.1).1) (by rw[O];rfl);have y3:=dC b 3 (x:=(af 32 (af 32 (af 32 l).2.1).2.1).2.1) (by rw[O];rfl);have q3:(3:Int)<((aP 3 l).length:Int)+3:=by have:=p0;omega
     have q2:(2:Int)<((aP 3 l).length:Int)+3:=by omega
     have q1:(1:Int)<((aP 3 l).length:Int)+3:=by omega
     have S:=ae (H1.trans H2);have SL:=ae (P.aa S);have KL:=ae (SK.trans (KR.u S ly));clear b f ZK e0 r0 r1 X Bk S;have r0:=SL.ab.c0;have r1:=SL.ab.fz;have X:=SL.ab.lt;have At:=SL.le;have GN:=ae (λG (h:Good (R.map (·.1)) l G)=>JK h HW);have Fk:=λV=>jo ⟨(af 32 (af 32 (af 32 l).2.1).2.1).2.1.toArray⟩ V (by show(af 32 (af 32 (af 32 l).2.1).2.1).2.1.length<=_;omega);have UQ:Hid (∀V,Calls Pg 201 #[U ⟨(af 32 (af 32 (af 32 l).2.1).2.1).2.1.toArray⟩] V λe w'=>e=ZF (U ⟨(be (bS (af 32 (af 32 (af 32 l).2.1).2.1).2.1)).toArray⟩)/\Below V.heap.size V w'):=Fk;have Fn:=λV=>jT ⟨(af 32 (af 32 (af 32 l).2.1).2.1).1.toArray⟩ V (by show(af 32 (af 32 (af 32 l).2.1).2.1).1.length<=_;omega);have NU:Hid (∀V,Calls Pg 202 #[U ⟨(af 32 (af 32 (af 32 l).2.1).2.1).1.toArray⟩] V λe w'=>e=ZF (N I (bQ 0 ((af 32 (af 32 (af 32 l).2.1).2.1).1.take 6)))/\w'=V):=Fn;have ul:=ww (af 32 (af 32 (af 32 l).2.1).2.1).2.1;clear Fk Fn H2 O2;go_upto_region 17 with fail;have ZP:Hid (∀V:M,(∀k,k<o.heap.size->T k≠(Value.slice a R.length c).ownBlock->V.heap[k]?=o.heap[k]?)->A V (Q (w.heap.size+1) 0 Y)=T (Z a R.length c)/\A V (Q z 1 Y)=T (U ⟨(af 32 (af 32 l).2.1).1.toArray⟩)/\A V (Q z 2 Y)=T (U ⟨(af 32 (af 32 (af 32 l).2.1).2.1).1.toArray⟩)/\A V (Q z 3 Y)=T (U ⟨(af 32 (af 32 (af 32 l).2.1).2.1).2.1.toArray⟩)):=λV H=>⟨(cq (a:=(Q (w.heap.size+1) 0 Y)) (H (w.heap.size+1) X (λe=>by have h1:=(SL.row.i.lt _ e.symm).1;have h2:=SL.lt;omega))).trans r0,(cq (a:=(Q z 1 Y)) (H (z) l2 (λe=>by have h1:=(P.row.i.lt _ e.symm).2;omega))).trans y1,(cq (a:=(Q z 2 Y)) (H (z) l2 (λe=>by have h1:=(P.row.i.lt _ e.symm).2;omega))).trans y2,(cq (a:=(Q z 3 Y)) (H (z) l2 (λe=>by have h1:=(P.row.i.lt _ e.symm).2;omega))).trans y3⟩
     have W:=ae (ZP o.drew (λk ZL _=>rfl));have F:Hid (Below o.heap.size o o.drew):=(dB _ o).drew;refine aD (λV=>A V (Q (w.heap.size+1) 0 Y)=T (Z a R.length c)/\A V (Q z 1 Y)=T (U ⟨(af 32 (af 32 l).2.1).1.toArray⟩)/\A V (Q z 2 Y)=T (U ⟨(af 32 (af 32 (af 32 l).2.1).2.1).1.toArray⟩)/\A V (Q z 3 Y)=T (U ⟨(af 32 (af 32 (af 32 l).2.1).2.1).2.1.toArray⟩)) 17 (by kernel_rfl) ?_;iterate 8
      refine aJ 0 (v:=?_) rfl rfl (by kernel_rfl) (λ_ _ _ h=>h) rfl ?_ W ?_;rotate_left
      ·(rintro wz ⟨s0,s1,s2,s3⟩;go_simp)
       (try with_reducible rfl)
      (try simp only[Act.put,nzL])
     iterate 3
      refine aJ 9 (v:=?_) rfl rfl (by kernel_rfl) (λ_ _ _ h=>h) rfl ?_ W ?_;rotate_left
      ·(rintro wz ⟨s0,s1,s2,s3⟩;go_simp)
       (try with_reducible rfl)
      (try simp only[Act.put,nzL])
     refine ah (i:=8) rfl (by kernel_rfl) λK m=>?_;go_simp;go_at_call 202;refine(NU _).mono ?_;rintro e wN ⟨rfl,rfl⟩;refine m _ _ (λ_=>W) ?_;clear m K
     (try simp only[Act.put,nzL])
     refine ah (i:=12) rfl (by kernel_rfl) λK m=>?_;go_simp;go_at_call 201;refine(UQ _).mono ?_;rintro e ZJ ⟨rfl,DE⟩;have D5:=ae (F.trans (DE.mono F.size));have q:=ae (SL.aa D5);have K5:=ae (KL.trans (KR.u D5 ly));replace F:=D5;replace W:=ae (ZP _ (λk ZL _=>D5.block k ZL));have Lq:=q.le;clear DE;refine m _ _ (λ_=>W) ?_;clear m K
     (try simp only[Act.put,nzL])
     refine aJ 13 (v:=?_) rfl rfl (by kernel_rfl) (λ_ _ _ h=>h) rfl ?_ W ?_;rotate_left
     ·(rintro wz ⟨s0,s1,s2,s3⟩;go_simp)
      (try with_reducible rfl)
     (try simp only[Act.put,nzL])
     refine ah (i:=14) rfl (by kernel_rfl) λK m=>?_;go_simp;have ZR:=ae (F.alloc F.size (J #[U ⟨(af 32 (af 32 l).2.1).1.toArray⟩,N I 3,N I (bQ 0 ((af 32 (af 32 (af 32 l).2.1).2.1).1.take 6)),U ⟨(be (bS (af 32 (af 32 (af 32 l).2.1).2.1).2.1)).toArray⟩,Z Y 0 0,Z Y 0 0] 46));refine m _ _ (λ_=>ZP _ (λk ZL _=>ZR.block k ZL)) ?_;clear m K
     (try simp only[Act.put,nzL])
     refine ah (i:=15) rfl (by kernel_rfl) λK m=>?_
     (refine aG rfl (.tmp 73) (.tmp 86) 35 rfl ZM.heap.size 46 i1 (ZH #[U ⟨#[]⟩,N I 0,N I 0,U ⟨#[]⟩,Z Y 0 0,Z Y 0 0]) 6 96 PF hi KZ La Lb rfl (by decide) (Z a R.length c) R.length (R.flatMap ddV) (by simp[Act.eval]) (by first|exact q.row.i.alloc _|exact q.row.i.drew.alloc _|exact q.row.i.drew.drew.alloc _|exact q.row.i.drew.drew.drew.alloc _) (Q ZJ.heap.size 0 Y) 1 1 [U ⟨(af 32 (af 32 l).2.1).1.toArray⟩,N I 3,N I (bQ 0 ((af 32 (af 32 (af 32 l).2.1).2.1).1.take 6)),U ⟨(be (bS (af 32 (af 32 (af 32 l).2.1).2.1).2.1)).toArray⟩,Z Y 0 0,Z Y 0 0] (by simp[Act.eval]) rfl (by first|exact dP ZJ _ _ _ _ _ _ _|exact dP ZJ.drew _ _ _ _ _ _ _|exact dP ZJ.drew.drew _ _ _ _ _ _ _|exact dP ZJ.drew.drew.drew _ _ _ _ _ _ _) (by simp[Value.oneCell']) (by unfold maxLen;omega) (by omega) (by simp;omega) ?_;intro v6 w6 b f ZS;(first|have t:=ae (q.ao (dB _ ZJ) b f)|have t:=ae (q.ao (dB _ ZJ).drew b f)|have t:=ae (q.ao (dB _ ZJ).drew.drew b f)|have t:=ae (q.ao (dB _ ZJ).drew.drew.drew b f));obtain⟨a6,c6,rfl⟩:=cJ b;have k0:=t.2.2.c0;have k1:=t.2.2.fz;have k2:=t.2.2.lt;have G6:=ae (ZP w6 (fX (by first|exact ZR|exact ZR.drew) f));clear b f ZS)
     refine m _ _ (λ_=>G6) ?_;clear m K
     (try simp only[Act.put,nzL])
     refine ah (i:=16) rfl (by kernel_rfl) λK m=>?_;go_simp;refine m _ _ (λ_=>G6) ?_;clear m K
     (try simp only[Act.put,nzL])
     refine ah (i:=17) rfl (by kernel_rfl) λK m=>?_;go_simp;refine m _ _ (λh=>absurd rfl h) ?_;clear m K
     (try simp only[Act.put,nzL])
     refine aX (by kernel_rfl) ?_ _;go_simp;go_wp2;go_meet;exact(L6I.next dg SG (t.1.len (by simp)) (by rw[DN];exact SZ.new _ _ _ _ (by show(af 32 (af 32 l).2.1).1.toArray.size<=300000;rw[CV];omega) (by show(be (bS (af 32 (af 32 (af 32 l).2.1).2.1).2.1)).toArray.size<=300000;rw[CV];omega)) (K5.trans t.2.1) (λe=>absurd e NE) (λG h=>by rw[GN.out G h];simp))
    by_cases sm:(af 32 l).1=[100,111]
    ·as_aux_lemma =>
      have HW:=ae sm;have NE:Hid (l≠[]):=λe=>by have:=LE.out e;rw[sm] at this;cases this
      rw[sm] at e0;rcases iY R with rfl|⟨y,r,rfl⟩
      {have GN:Hid (∀G,¬ Good (List.map (·.1) ([]:List DR)) l G):=λG h=>(by obtain⟨D0,d,h1,_⟩:=GK h HW;simp at h1);go_wp2;go_meet;exact(L6I.next dg SG ZO (SZ.up (F6 _)) K1 (λ_=>rfl) (λG h=>absurd h (GN G)))}
      ·have B:(y++[r]).length=y.length+1:=by simp
       have GN:=ae (λG (h:Good (List.map (·.1) (y++[r])) l G)=>GK h HW);have hr:=SZ.2 r.1 (by simp);have Lo:=hr.a;have Ln:=hr.l;obtain⟨C,cd,Fm⟩:=cC ZO.row.i (by rw[B];omega);cases Fm
       rw[B] at r0 JT;try rw[B]
       have ek:((y.length+1:Nat):Int) - 1=(y.length:Int):=by omega
       have Le:(y.length:Int)+1 - 1=(y.length:Int):=by omega
       have k5:(0:Int)<=(y.length:Int):=by omega
       have k6:(y.length:Int)<(y.length:Int)+1:=by omega
       clear hr;by_cases h3:3<l.length
       ·have LF:(3:Int)<(l.length:Int):=by omega
        have h3j:(3:Int)<=(l.length:Int):=by omega
        have ex:(⟨l.toArray⟩:ByteArray).extract 3 l.length=⟨(l.drop 3).toArray⟩:=by refine ON (QZ ?_);simp only[PO,QE,PJ];rw[IU (by simp)]
        have Li:=zy ⟨(l.drop 3).toArray⟩ L (by show(l.drop 3).length<=_;rw[LK];omega);have RD:Hid (Calls Pg 203 #[U ⟨(l.drop 3).toArray⟩] L λe w'=>e=ZF (zv (bF (l.drop 3)))/\Below L.heap.size L w'):=Li;obtain⟨op,tx,nn,okb,hv,Id,Ll⟩:=xH (l.drop 3);rw[hv] at RD;have Lw:=ae Id;have Ll:tx.length<=2000:=Ll;clear Li hv Id;go_wp2_with fail;refine RD.mono ?_;rintro e o ⟨rfl,mv⟩;have S:=ae ((H1.trans (mv.mono qr)).alloc (p7 qr mv.size) (J #[N I op,U ⟨tx.toArray⟩,N I nn] 151));have CK:Hid (CI (o.alloc (J #[N I op,U ⟨tx.toArray⟩,N I nn] 151)) o.heap.size (N I op) (U ⟨tx.toArray⟩) (N I nn)):=nL o _;have Ly:wr.heap.size<=o.heap.size:=p7 qr mv.size;clear mv RD;go_upto_region 21 with fail;generalize o.alloc (J #[N I op,U ⟨tx.toArray⟩,N I nn] 151)=ZQ at S CK ⊢;generalize o.heap.size=iB at CK Ly ⊢;have q:Hid (ASt ZQ (w.heap.size+1) ZM.heap.size (Z (T (Q C 0 Y)) (y.length+1) c) (y++[r])):=by have:=P.aa S.out;rw[B] at this;exact this
        have K5:=ae (SK.trans (KR.u S ly));clear e0 r0 r1 X Bk S ex;have c0:=CK.c0;have Ls:=CK.c1;have Lt:=CK.c2;have cz:=CK.lt;have r0:=q.ab.c0;have r1:=q.ab.fz;have X:=q.ab.lt;have cell:=cR (by rw[B];have:=q.row.i;rw[B] at this;exact this) (i:=y.length) (r:=r) (by simp) 4 (by omega) (u:=r.2.1) rfl;have m0:=cell.1;have ro:=(q.row.i.lt C rfl).2;have At:=q.le;have ZN:=ae (q.row.sub r (by simp)).H;obtain⟨av,cv,bt⟩:=cJ ZN;have aq:=ae bt;rw[bt] at m0;clear cell bt;have ZP:Hid (∀V:M,(∀k,k<ZQ.heap.size->T k≠r.2.1.ownBlock->V.heap[k]?=ZQ.heap[k]?)->A V (Q (w.heap.size+1) 0 Y)=T (Z (T (Q C 0 Y)) (y.length+1) c)/\A V (Q C (y.length*6+4) Y)=T (Z av r.1.f cv)/\A V (Q iB 0 Y)=T (N I op)/\A V (Q iB 1 Y)=T (U ⟨tx.toArray⟩)/\A V (Q iB 2 Y)=T (N I nn)):=λV H=>⟨(cq (a:=(Q (w.heap.size+1) 0 Y)) (H (w.heap.size+1) X (λe=>by have h1:=(ZN.lt _ e.symm).1;have h2:=q.lt;omega))).trans r0,(cq (a:=(Q C (y.length*6+4) Y)) (H (C) ro (λe=>(bu q.row.i C rfl).ne (by decide) (bu ZN C e.symm)))).trans m0,(cq (a:=(Q iB 0 Y)) (H (iB) cz (λe=>by have h1:=((P.row.sub r (by simp)).H.lt _ e.symm).2;omega))).trans c0,(cq (a:=(Q iB 1 Y)) (H (iB) cz (λe=>by have h1:=((P.row.sub r (by simp)).H.lt _ e.symm).2;omega))).trans Ls,(cq (a:=(Q iB 2 Y)) (H (iB) cz (λe=>by have h1:=((P.row.sub r (by simp)).H.lt _ e.symm).2;omega))).trans Lt⟩
        have W:=ae (ZP ZQ.drew (λk ZL _=>rfl));have F:Hid (Below ZQ.heap.size ZQ ZQ.drew):=(dB _ ZQ).drew;refine aD (λV=>A V (Q (w.heap.size+1) 0 Y)=T (Z (T (Q C 0 Y)) (y.length+1) c)/\A V (Q C (y.length*6+4) Y)=T (Z av r.1.f cv)/\A V (Q iB 0 Y)=T (N I op)/\A V (Q iB 1 Y)=T (U ⟨tx.toArray⟩)/\A V (Q iB 2 Y)=T (N I nn)) 16 (by kernel_rfl) ?_;iterate 11
         refine aJ 0 (v:=?_) rfl rfl (by kernel_rfl) (λ_ _ _ h=>h) rfl ?_ W ?_;rotate_left
         ·(rintro wz ⟨s0,s1,s2,s3,s4⟩;go_simp)
          (try with_reducible rfl)
         (try simp only[Act.put,nzL])
        refine ah (i:=11) rfl (by kernel_rfl) λK m=>?_;go_simp;have ZR:=ae (F.alloc F.size (J #[N I op,U ⟨tx.toArray⟩,N I nn] 151));refine m _ _ (λ_=>ZP _ (λk ZL _=>ZR.block k ZL)) ?_;clear m K
        (try simp only[Act.put,nzL])
        refine ah (i:=12) rfl (by kernel_rfl) λK m=>?_
        (refine aG rfl (.tmp 119) (.tmp 121) 41 rfl ZM.heap.size 151 i2 (ZH #[N I 0,U ⟨#[]⟩,N I 0]) 3 32 RP Lv Lx Lr Lu rfl (by decide) (Z av r.1.f cv) r.1.f (bJ r.1.H r.1.f) (by simp[Act.eval]) (by rw[<-aq.out];first|exact ZN.alloc _|exact ZN.drew.alloc _|exact ZN.drew.drew.alloc _|exact ZN.drew.drew.drew.alloc _) (Q ZQ.heap.size 0 Y) 1 1 [N I op,U ⟨tx.toArray⟩,N I nn] (by simp[Act.eval]) rfl (by first|exact fO ZQ _ _ _ _|exact fO ZQ.drew _ _ _ _|exact fO ZQ.drew.drew _ _ _ _|exact fO ZQ.drew.drew.drew _ _ _ _) (by simp[Value.oneCell']) (by unfold maxLen;omega) (by omega) (by simp;omega) ?_;intro v6 w6 b f ZS;rw[<-aq.out] at f ZS;(first|have t:=ae (q.moreA (x:=⟨op,⟨tx.toArray⟩,nn⟩) (dB _ ZQ) b f ZS)|have t:=ae (q.moreA (x:=⟨op,⟨tx.toArray⟩,nn⟩) (dB _ ZQ).drew b f ZS)|have t:=ae (q.moreA (x:=⟨op,⟨tx.toArray⟩,nn⟩) (dB _ ZQ).drew.drew b f ZS)|have t:=ae (q.moreA (x:=⟨op,⟨tx.toArray⟩,nn⟩) (dB _ ZQ).drew.drew.drew b f ZS));obtain⟨a6,c6,rfl⟩:=cJ b;have k0:=t.2.2.1;have k1:=t.2.2.2.1;have k2:=t.2.2.2.2.1;have k3:=t.2.2.2.2.2.c0;have k4:=t.2.2.2.2.2.lt;rw[aq.out] at k0;have G6:=ae (ZP w6 (fX (by first|exact ZR|exact ZR.drew) f));clear b f ZS)
        refine m _ _ (λ_=>G6) ?_;clear m K
        (try simp only[Act.put,nzL])
        iterate 3
         refine cD 13 rfl rfl (by kernel_rfl) λK m=>?_;go_simp;refine m _ _ (λ_=>G6) ?_;clear m K
         (try simp only[Act.put,nzL])
        refine ah (i:=16) rfl (by kernel_rfl) λK m=>?_;go_simp;refine m _ _ (λh=>absurd rfl h) ?_;clear m K
        (try simp only[Act.put,nzL])
        refine aX (by kernel_rfl) ?_ _;go_simp;go_wp2;go_meet
        exact(L6I.next dg SG (t.1.len (by simp)) (by have hz:=SZ.out;rw[DN,PU,PX] at hz ⊢;exact hz.doA _ (by show tx.toArray.size<=300000;rw[CV];omega)) (K5.trans t.2.1) (λe=>absurd e NE) (λG h=>by
           obtain⟨D0,d,h1,_,h4⟩:=GN.out G h;rw[DN,PU,PX] at h1 ⊢;obtain⟨rfl,h5⟩:=TG h1 rfl;cases h5
           rw[h4,Lw.out]))
       ·have LF:¬ (3:Int)<(l.length:Int):=by omega
        have S9:Hid (ASt L (w.heap.size+1) ZM.heap.size (Z (T (Q C 0 Y)) (y++[r]).length c) (y++[r])):=ZO.out;go_wp2;go_meet;exact(L6I.next dg SG S9 (SZ.up (F6 _)) K1 (λ_=>rfl) (λG h=>by obtain⟨_,_,_,h4,_⟩:=GN.out G h;exact absurd h4 h3))
    by_cases fd:(af 32 l).1=[97,115,107]
    ·as_aux_lemma =>
      have HW:=ae fd;have NE:Hid (l≠[]):=λe=>by have:=LE.out e;rw[fd] at this;cases this
      rw[fd] at e0;have ZB:=ae qr;go_wp2_with (at_builtin;refine BS _ rfl (.tmp 128) (.tmp 129) 30 rfl wr.heap.size 9 i0 (U ⟨#[]⟩) 1 16 IB Fd DQ DH DS rfl (by decide) _ (aP 3 l).length (cK (aP 3 l)) (by simp[Act.eval]) (O1.alloc _) (Q L.heap.size 0 Y) 2 2 [U ⟨#[]⟩,U ⟨#[]⟩] (by simp[Act.eval]) rfl (rS L _ _ _) (by simp[Value.oneCell']) (by unfold maxLen;omega) (by omega) (by simp;omega) ?_);intro v2 o b f ZK;have b:o.ownsRow wr.heap.size 9 1 v2 ((aP 3 l).length+2) (cK (aP 3 l++[[],[]])):=by rw[j8];exact b
      obtain⟨z,c2,rfl⟩:=dr b (by omega);have H2:=ae (bg ((dB wr.heap.size L).alloc ZB _) f (by simp;have:=ZB.out;omega) (λk e=>(O1.lt k e).1));have O2:=ae b;have l2:=(b.lt z rfl).2;have Lc:=(b.lt z rfl).1;obtain⟨GS,O⟩:=oK l [];have y1:=dC b 1 (x:=(af 32 (af 32 l).2.1).1) (by rw[O];rfl);have y2:=dC b 2 (x:=(af 32 (af 32 (af 32 l).2.1).2.1).1) (by rw[O];rfl);have q2:(2:Int)<((aP 3 l).length:Int)+2:=by have:=p0;omega
      have q1:(1:Int)<((aP 3 l).length:Int)+2:=by omega
      have S:=ae (H1.trans H2);have ZO:=ae (P.aa S);have K1:=ae (SK.trans (KR.u S ly));have Lp:=cy 32 (af 32 (af 32 l).2.1).2.1;clear b f ZK e0 r0 r1 X Bk S H2 O2;have r0:=ZO.ab.c0;have r1:=ZO.ab.fz;have X:=ZO.ab.lt;have At:=ZO.le;have Fn:=λV=>jT ⟨(af 32 (af 32 (af 32 l).2.1).2.1).1.toArray⟩ V (by show(af 32 (af 32 (af 32 l).2.1).2.1).1.length<=_;omega);have NU:Hid (∀V,Calls Pg 202 #[U ⟨(af 32 (af 32 (af 32 l).2.1).2.1).1.toArray⟩] V λe w'=>e=ZF (N I (bQ 0 ((af 32 (af 32 (af 32 l).2.1).2.1).1.take 6)))/\w'=V):=Fn;clear Fn;rcases iY R with rfl|⟨y,r,rfl⟩
      {have GN:Hid (∀G,¬ Good (List.map (·.1) ([]:List DR)) l G):=λG h=>(by obtain⟨D0,d,h1,_⟩:=CS h HW;simp at h1);go_wp2;go_meet;exact(L6I.next dg SG ZO (SZ.up (F6 _)) K1 (λ_=>rfl) (λG h=>absurd h (GN G)))}
      ·have B:(y++[r]).length=y.length+1:=by simp
       have GN:=ae (λG (h:Good (List.map (·.1) (y++[r])) l G)=>CS h HW);have hr:=SZ.2 r.1 (by simp);have Lo:=hr.a;have Ln:=hr.l;obtain⟨C,cd,Fm⟩:=cC ZO.row.i (by rw[B];omega);cases Fm
       rw[B] at r0 JT;try rw[B]
       have ek:((y.length+1:Nat):Int) - 1=(y.length:Int):=by omega
       have Le:(y.length:Int)+1 - 1=(y.length:Int):=by omega
       have k5:(0:Int)<=(y.length:Int):=by omega
       have k6:(y.length:Int)<(y.length:Int)+1:=by omega
       clear hr;go_upto_region 25 with fail;have q:Hid (ASt o (w.heap.size+1) ZM.heap.size (Z (T (Q C 0 Y)) (y.length+1) c) (y++[r])):=by have:=ZO.out;rw[B] at this;exact this
       have K5:=K1;have cell:=cR (by rw[B];have:=q.row.i;rw[B] at this;exact this) (i:=y.length) (r:=r) (by simp) 5 (by omega) (u:=r.2.2) rfl;have m0:=cell.1;have ro:=(q.row.i.lt C rfl).2;have At:=q.le;have ZN:=ae (q.row.sub r (by simp)).V;obtain⟨av,cv,bt⟩:=cJ ZN;have aq:=ae bt;rw[bt] at m0;clear cell bt;have ZP:Hid (∀V:M,(∀k,k<o.heap.size->T k≠r.2.2.ownBlock->V.heap[k]?=o.heap[k]?)->A V (Q (w.heap.size+1) 0 Y)=T (Z (T (Q C 0 Y)) (y.length+1) c)/\A V (Q C (y.length*6+5) Y)=T (Z av r.1.b cv)/\A V (Q z 1 Y)=T (U ⟨(af 32 (af 32 l).2.1).1.toArray⟩)/\A V (Q z 2 Y)=T (U ⟨(af 32 (af 32 (af 32 l).2.1).2.1).1.toArray⟩)):=λV H=>⟨(cq (a:=(Q (w.heap.size+1) 0 Y)) (H (w.heap.size+1) X (λe=>by have h1:=(ZN.lt _ e.symm).1;have h2:=q.lt;omega))).trans r0,(cq (a:=(Q C (y.length*6+5) Y)) (H (C) ro (λe=>(bu q.row.i C rfl).ne (by decide) (bu ZN C e.symm)))).trans m0,(cq (a:=(Q z 1 Y)) (H (z) l2 (λe=>by have h1:=((P.row.sub r (by simp)).V.lt _ e.symm).2;omega))).trans y1,(cq (a:=(Q z 2 Y)) (H (z) l2 (λe=>by have h1:=((P.row.sub r (by simp)).V.lt _ e.symm).2;omega))).trans y2⟩
       have W:=ae (ZP o.drew (λk ZL _=>rfl));have F:Hid (Below o.heap.size o o.drew):=(dB _ o).drew;refine aD (λV=>A V (Q (w.heap.size+1) 0 Y)=T (Z (T (Q C 0 Y)) (y.length+1) c)/\A V (Q C (y.length*6+5) Y)=T (Z av r.1.b cv)/\A V (Q z 1 Y)=T (U ⟨(af 32 (af 32 l).2.1).1.toArray⟩)/\A V (Q z 2 Y)=T (U ⟨(af 32 (af 32 (af 32 l).2.1).2.1).1.toArray⟩)) 21 (by kernel_rfl) ?_;iterate 15
        refine aJ 0 (v:=?_) rfl rfl (by kernel_rfl) (λ_ _ _ h=>h) rfl ?_ W ?_;rotate_left
        ·(rintro wz ⟨s0,s1,s2,s3⟩;go_simp)
         (try with_reducible rfl)
        (try simp only[Act.put,nzL])
       refine ah (i:=15) rfl (by kernel_rfl) λK m=>?_;go_simp;go_at_call 202;refine(NU _).mono ?_;rintro e wN ⟨rfl,rfl⟩;refine m _ _ (λ_=>W) ?_;clear m K
       (try simp only[Act.put,nzL])
       refine aJ 16 (v:=?_) rfl rfl (by kernel_rfl) (λ_ _ _ h=>h) rfl ?_ W ?_;rotate_left
       ·(rintro wz ⟨s0,s1,s2,s3⟩;go_simp)
        (try with_reducible rfl)
       (try simp only[Act.put,nzL])
       refine ah (i:=17) rfl (by kernel_rfl) λK m=>?_;go_simp;have ZR:=ae (F.alloc F.size (J #[U ⟨(af 32 (af 32 l).2.1).1.toArray⟩,ZD ZG,ZD ZA,N I (bQ 0 ((af 32 (af 32 (af 32 l).2.1).2.1).1.take 6))] 91));refine m _ _ (λ_=>ZP _ (λk ZL _=>ZR.block k ZL)) ?_;clear m K
       (try simp only[Act.put,nzL])
       refine ah (i:=18) rfl (by kernel_rfl) λK m=>?_
       (refine aG rfl (.tmp 141) (.tmp 150) 44 rfl ZM.heap.size 91 i3 (ZH #[U ⟨#[]⟩,ZD ZA,ZD ZA,N I 0]) 4 32 Q2 Lh Lg Ld Lj rfl (by decide) (Z av r.1.b cv) r.1.b (bq r.1.D r.1.b) (by simp[Act.eval]) (by rw[<-aq.out];first|exact ZN.alloc _|exact ZN.drew.alloc _|exact ZN.drew.drew.alloc _|exact ZN.drew.drew.drew.alloc _) (Q o.heap.size 0 Y) 1 1 [U ⟨(af 32 (af 32 l).2.1).1.toArray⟩,ZD ZG,ZD ZA,N I (bQ 0 ((af 32 (af 32 (af 32 l).2.1).2.1).1.take 6))] (by simp[Act.eval]) rfl (by first|exact ez o _ _ _ _ _|exact ez o.drew _ _ _ _ _|exact ez o.drew.drew _ _ _ _ _|exact ez o.drew.drew.drew _ _ _ _ _) (by simp[Value.oneCell']) (by unfold maxLen;omega) (by omega) (by simp;omega) ?_;intro v6 w6 b f ZS;rw[<-aq.out] at f ZS;(first|have t:=ae (q.moreL (x:=⟨⟨(af 32 (af 32 l).2.1).1.toArray⟩,ZG,ZA,bQ 0 ((af 32 (af 32 (af 32 l).2.1).2.1).1.take 6)⟩) (dB _ o) b f ZS)|have t:=ae (q.moreL (x:=⟨⟨(af 32 (af 32 l).2.1).1.toArray⟩,ZG,ZA,bQ 0 ((af 32 (af 32 (af 32 l).2.1).2.1).1.take 6)⟩) (dB _ o).drew b f ZS)|have t:=ae (q.moreL (x:=⟨⟨(af 32 (af 32 l).2.1).1.toArray⟩,ZG,ZA,bQ 0 ((af 32 (af 32 (af 32 l).2.1).2.1).1.take 6)⟩) (dB _ o).drew.drew b f ZS)|have t:=ae (q.moreL (x:=⟨⟨(af 32 (af 32 l).2.1).1.toArray⟩,ZG,ZA,bQ 0 ((af 32 (af 32 (af 32 l).2.1).2.1).1.take 6)⟩) (dB _ o).drew.drew.drew b f ZS));obtain⟨a6,c6,rfl⟩:=cJ b;have k0:=t.2.2.1;have k1:=t.2.2.2.1;have k2:=t.2.2.2.2.1;have k3:=t.2.2.2.2.2.c0;have k4:=t.2.2.2.2.2.lt;rw[aq.out] at k0;have G6:=ae (ZP w6 (fX (by first|exact ZR|exact ZR.drew) f));clear b f ZS)
       refine m _ _ (λ_=>G6) ?_;clear m K
       (try simp only[Act.put,nzL])
       iterate 2
        refine cD 19 rfl rfl (by kernel_rfl) λK m=>?_;go_simp;refine m _ _ (λ_=>G6) ?_;clear m K
        (try simp only[Act.put,nzL])
       refine ah (i:=21) rfl (by kernel_rfl) λK m=>?_;go_simp;refine m _ _ (λh=>absurd rfl h) ?_;clear m K
       (try simp only[Act.put,nzL])
       refine aX (by kernel_rfl) ?_ _;go_simp;go_wp2;go_meet
       exact(L6I.next dg SG (t.1.len (by simp)) (by have hz:=SZ.out;rw[DN,PU,PX] at hz ⊢;exact hz.lkA _ (by show(af 32 (af 32 l).2.1).1.toArray.size<=300000;rw[CV];omega)) (K5.trans t.2.1) (λe=>absurd e NE) (λG h=>by
         obtain⟨D0,d,h1,h4⟩:=GN.out G h;rw[DN,PU,PX] at h1 ⊢;obtain⟨rfl,h5⟩:=TG h1 rfl;cases h5
         rw[h4]))
    by_cases n9:(af 32 l).1=[104,97,115]
    ·as_aux_lemma =>
      have HW:=ae n9;have NE:Hid (l≠[]):=λe=>by have:=LE.out e;rw[n9] at this;cases this
      rw[n9] at e0;have ZB:=ae qr;go_wp2_with (at_builtin;refine BS _ rfl (.tmp 156) (.tmp 157) 30 rfl wr.heap.size 9 i0 (U ⟨#[]⟩) 1 16 IB Fd DQ DH DS rfl (by decide) _ (aP 3 l).length (cK (aP 3 l)) (by simp[Act.eval]) (O1.alloc _) (Q L.heap.size 0 Y) 2 2 [U ⟨#[]⟩,U ⟨#[]⟩] (by simp[Act.eval]) rfl (rS L _ _ _) (by simp[Value.oneCell']) (by unfold maxLen;omega) (by omega) (by simp;omega) ?_);intro v2 o b f ZK;have b:o.ownsRow wr.heap.size 9 1 v2 ((aP 3 l).length+2) (cK (aP 3 l++[[],[]])):=by rw[j8];exact b
      obtain⟨z,c2,rfl⟩:=dr b (by omega);have H2:=ae (bg ((dB wr.heap.size L).alloc ZB _) f (by simp;have:=ZB.out;omega) (λk e=>(O1.lt k e).1));have O2:=ae b;have l2:=(b.lt z rfl).2;have Lc:=(b.lt z rfl).1;obtain⟨GS,O⟩:=oK l [];have y1:=dC b 1 (x:=(af 32 (af 32 l).2.1).1) (by rw[O];rfl);have y2:=dC b 2 (x:=(af 32 (af 32 (af 32 l).2.1).2.1).1) (by rw[O];rfl);have q2:(2:Int)<((aP 3 l).length:Int)+2:=by have:=p0;omega
      have q1:(1:Int)<((aP 3 l).length:Int)+2:=by omega
      have S:=ae (H1.trans H2);have ZO:=ae (P.aa S);have K1:=ae (SK.trans (KR.u S ly));have Lp:=cy 32 (af 32 (af 32 l).2.1).2.1;clear b f ZK e0 r0 r1 X Bk S H2 O2;have r0:=ZO.ab.c0;have r1:=ZO.ab.fz;have X:=ZO.ab.lt;have At:=ZO.le;rcases iY R with rfl|⟨y,r,rfl⟩
      {have GN:Hid (∀G,¬ Good (List.map (·.1) ([]:List DR)) l G):=λG h=>(by obtain⟨D0,d,h1,_⟩:=CY h HW;simp at h1);go_wp2;go_meet;exact(L6I.next dg SG ZO (SZ.up (F6 _)) K1 (λ_=>rfl) (λG h=>absurd h (GN G)))}
      ·have B:(y++[r]).length=y.length+1:=by simp
       have GN:=ae (λG (h:Good (List.map (·.1) (y++[r])) l G)=>CY h HW);have hr:=SZ.2 r.1 (by simp);have Lo:=hr.a;have Ln:=hr.l;obtain⟨C,cd,Fm⟩:=cC ZO.row.i (by rw[B];omega);cases Fm
       rw[B] at r0 JT;try rw[B]
       have ek:((y.length+1:Nat):Int) - 1=(y.length:Int):=by omega
       have Le:(y.length:Int)+1 - 1=(y.length:Int):=by omega
       have k5:(0:Int)<=(y.length:Int):=by omega
       have k6:(y.length:Int)<(y.length:Int)+1:=by omega
       clear hr;go_upto_region 29 with fail;have q:Hid (ASt o (w.heap.size+1) ZM.heap.size (Z (T (Q C 0 Y)) (y.length+1) c) (y++[r])):=by have:=ZO.out;rw[B] at this;exact this
       have K5:=K1;have cell:=cR (by rw[B];have:=q.row.i;rw[B] at this;exact this) (i:=y.length) (r:=r) (by simp) 5 (by omega) (u:=r.2.2) rfl;have m0:=cell.1;have ro:=(q.row.i.lt C rfl).2;have At:=q.le;have ZN:=ae (q.row.sub r (by simp)).V;obtain⟨av,cv,bt⟩:=cJ ZN;have aq:=ae bt;rw[bt] at m0;clear cell bt;have ZP:Hid (∀V:M,(∀k,k<o.heap.size->T k≠r.2.2.ownBlock->V.heap[k]?=o.heap[k]?)->A V (Q (w.heap.size+1) 0 Y)=T (Z (T (Q C 0 Y)) (y.length+1) c)/\A V (Q C (y.length*6+5) Y)=T (Z av r.1.b cv)/\A V (Q z 1 Y)=T (U ⟨(af 32 (af 32 l).2.1).1.toArray⟩)/\A V (Q z 2 Y)=T (U ⟨(af 32 (af 32 (af 32 l).2.1).2.1).1.toArray⟩)):=λV H=>⟨(cq (a:=(Q (w.heap.size+1) 0 Y)) (H (w.heap.size+1) X (λe=>by have h1:=(ZN.lt _ e.symm).1;have h2:=q.lt;omega))).trans r0,(cq (a:=(Q C (y.length*6+5) Y)) (H (C) ro (λe=>(bu q.row.i C rfl).ne (by decide) (bu ZN C e.symm)))).trans m0,(cq (a:=(Q z 1 Y)) (H (z) l2 (λe=>by have h1:=((P.row.sub r (by simp)).V.lt _ e.symm).2;omega))).trans y1,(cq (a:=(Q z 2 Y)) (H (z) l2 (λe=>by have h1:=((P.row.sub r (by simp)).V.lt _ e.symm).2;omega))).trans y2⟩
       have W:=ae (ZP o.drew (λk ZL _=>rfl));have F:Hid (Below o.heap.size o o.drew):=(dB _ o).drew;refine aD (λV=>A V (Q (w.heap.size+1) 0 Y)=T (Z (T (Q C 0 Y)) (y.length+1) c)/\A V (Q C (y.length*6+5) Y)=T (Z av r.1.b cv)/\A V (Q z 1 Y)=T (U ⟨(af 32 (af 32 l).2.1).1.toArray⟩)/\A V (Q z 2 Y)=T (U ⟨(af 32 (af 32 (af 32 l).2.1).2.1).1.toArray⟩)) 21 (by kernel_rfl) ?_;iterate 17
        refine aJ 0 (v:=?_) rfl rfl (by kernel_rfl) (λ_ _ _ h=>h) rfl ?_ W ?_;rotate_left
        ·(rintro wz ⟨s0,s1,s2,s3⟩;go_simp)
         (try with_reducible rfl)
        (try simp only[Act.put,nzL])
       refine ah (i:=17) rfl (by kernel_rfl) λK m=>?_;go_simp;have ZR:=ae (F.alloc F.size (J #[U ⟨(af 32 (af 32 l).2.1).1.toArray⟩,ZD ZA,ZD ((af 32 (af 32 (af 32 l).2.1).2.1).1 == [49]),N I 0] 91));refine m _ _ (λ_=>ZP _ (λk ZL _=>ZR.block k ZL)) ?_;clear m K
       (try simp only[Act.put,nzL])
       refine ah (i:=18) rfl (by kernel_rfl) λK m=>?_
       (refine aG rfl (.tmp 169) (.tmp 178) 44 rfl ZM.heap.size 91 i3 (ZH #[U ⟨#[]⟩,ZD ZA,ZD ZA,N I 0]) 4 32 Q2 Lh Lg Ld Lj rfl (by decide) (Z av r.1.b cv) r.1.b (bq r.1.D r.1.b) (by simp[Act.eval]) (by rw[<-aq.out];first|exact ZN.alloc _|exact ZN.drew.alloc _|exact ZN.drew.drew.alloc _|exact ZN.drew.drew.drew.alloc _) (Q o.heap.size 0 Y) 1 1 [U ⟨(af 32 (af 32 l).2.1).1.toArray⟩,ZD ZA,ZD ((af 32 (af 32 (af 32 l).2.1).2.1).1 == [49]),N I 0] (by simp[Act.eval]) rfl (by first|exact ez o _ _ _ _ _|exact ez o.drew _ _ _ _ _|exact ez o.drew.drew _ _ _ _ _|exact ez o.drew.drew.drew _ _ _ _ _) (by simp[Value.oneCell']) (by unfold maxLen;omega) (by omega) (by simp;omega) ?_;intro v6 w6 b f ZS;rw[<-aq.out] at f ZS;(first|have t:=ae (q.moreL (x:=⟨⟨(af 32 (af 32 l).2.1).1.toArray⟩,ZA,(af 32 (af 32 (af 32 l).2.1).2.1).1 == [49],0⟩) (dB _ o) b f ZS)|have t:=ae (q.moreL (x:=⟨⟨(af 32 (af 32 l).2.1).1.toArray⟩,ZA,(af 32 (af 32 (af 32 l).2.1).2.1).1 == [49],0⟩) (dB _ o).drew b f ZS)|have t:=ae (q.moreL (x:=⟨⟨(af 32 (af 32 l).2.1).1.toArray⟩,ZA,(af 32 (af 32 (af 32 l).2.1).2.1).1 == [49],0⟩) (dB _ o).drew.drew b f ZS)|have t:=ae (q.moreL (x:=⟨⟨(af 32 (af 32 l).2.1).1.toArray⟩,ZA,(af 32 (af 32 (af 32 l).2.1).2.1).1 == [49],0⟩) (dB _ o).drew.drew.drew b f ZS));obtain⟨a6,c6,rfl⟩:=cJ b;have k0:=t.2.2.1;have k1:=t.2.2.2.1;have k2:=t.2.2.2.2.1;have k3:=t.2.2.2.2.2.c0;have k4:=t.2.2.2.2.2.lt;rw[aq.out] at k0;have G6:=ae (ZP w6 (fX (by first|exact ZR|exact ZR.drew) f));clear b f ZS)
       refine m _ _ (λ_=>G6) ?_;clear m K
       (try simp only[Act.put,nzL])
       iterate 2
        refine cD 19 rfl rfl (by kernel_rfl) λK m=>?_;go_simp;refine m _ _ (λ_=>G6) ?_;clear m K
        (try simp only[Act.put,nzL])
       refine ah (i:=21) rfl (by kernel_rfl) λK m=>?_;go_simp;refine m _ _ (λh=>absurd rfl h) ?_;clear m K
       (try simp only[Act.put,nzL])
       refine aX (by kernel_rfl) ?_ _;go_simp;go_wp2;go_meet
       exact(L6I.next dg SG (t.1.len (by simp)) (by have hz:=SZ.out;rw[DN,PU,PX] at hz ⊢;exact hz.lkA _ (by show(af 32 (af 32 l).2.1).1.toArray.size<=300000;rw[CV];omega)) (K5.trans t.2.1) (λe=>absurd e NE) (λG h=>by
         obtain⟨D0,d,h1,h4⟩:=GN.out G h;rw[DN,PU,PX] at h1 ⊢;obtain⟨rfl,h5⟩:=TG h1 rfl;cases h5
         rw[h4]))
    have m_src:((af 32 l).1 == [115,111,117,114,99,101])=ZA:=by simpa using ld
    have m_non:((af 32 l).1 == [110,111,110,101])=ZA:=by simpa using ph
    have m_tgt:((af 32 l).1 == [116,97,114,103,101,116])=ZA:=by simpa using la
    have m_do:((af 32 l).1 == [100,111])=ZA:=by simpa using sm
    have m_ask:((af 32 l).1 == [97,115,107])=ZA:=by simpa using fd
    have m_has:((af 32 l).1 == [104,97,115])=ZA:=by simpa using n9
    have GO:=ae (λG (h:Good (R.map (·.1)) l G)=>FH h ld ph la sm fd n9);go_wp2;go_meet;exact(L6I.next dg SG ZO (SZ.up (F6 _)) K1 (λ_=>rfl) (λG h=>(GO G h).symm))
   case rest =>
   have HN:=ae hcut.out;clear hcut;go_wp2;exact⟨⟨j+1,by omega,by go_num,HN⟩,by simp[intOf];omega⟩
  ·obtain rfl:j=ls.length:=by omega
   have S9:=ae (P);have cb:=P.ab.c0;have bk:=ae ((SK.keep w.heap.size (by omega) (by omega) (.inl (by omega))).trans BW);have b0:=(AcB.c0 bk)
   have b1:=(AcB.fz bk)
   have b2:=(AcB.lt bk)
   have BF:=ae (AcB.set bk (Z a R.length c));have AF:=ae ((AW.trans (SK.aa (n:=w.heap.size) (by omega) (by omega) (by omega))).setCell (p:=(Q w.heap.size 0 Y)) ly (Z a R.length c));have DF:=ae ((P.row.set (p:=(Q w.heap.size 0 Y)) (e:=0) (.inl (by show w.heap.size<ZM.heap.size;omega)) (Z a R.length c)).mono (show w.heap.size+2<=ZM.heap.size by omega));go_wp2;try simp only[Exit.inBlock,Exit.then]
   refine bp (Gp rfl _ _ w.heap.size _ rfl BF) rfl ?_;refine⟨AF,a,c,R,rfl,DF,SZ.up (by omega),λE hE=>?_⟩;have h:=SG.out E hE;rw[List.drop_length] at h;exact h
