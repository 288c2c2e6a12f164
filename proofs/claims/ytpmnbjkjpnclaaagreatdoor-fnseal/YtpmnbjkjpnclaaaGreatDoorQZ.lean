import Derived.Test.YtpmnbjkjpnclaaaGreatDoorQK
import Derived.Test.YtpmnbjkjpnclaaaGreatDoorRM
set_option maxRecDepth 100000
set_option maxHeartbeats 8000000
set_option linter.unusedSimpArgs false
open Go renaming Addr.mk->Q,Value.slice->Z,Value.string->Y,Value.int->J,Value.bool->ZD,Obj.cells->N,IntKind.i64->I,World->M,Value->ZC,Ending.returned->ZF,Proofs.Tryz.prog->Pg
open Option renaming none->U,some->T
open Bool renaming false->ZA,true->ZG
namespace Go.Proofs.YtpmnbjkjpnclaaaGreatDoor.Vp
open Tryz RowKit Ca
variable {D G:List Deed}{S W rest s t:List UInt8}{w:M}{g B:Nat}{b c:Array ZC}{n m:Int}{u:ZC}{x:Deed}
def OkD (kind:Int)(rest:List UInt8)(n:Int)(t:List UInt8):Prop :=
 if kind=3 then eO (af 32 (af 32 rest).2.1).1 n/\(af 32 (af 32 rest).2.1).2.1=aF t
 else if kind=1 then n=0/\(af 32 rest).2.1=aF t else n=0/\t=[]
def Cx (w:M)(b f:Nat)(R:List DR)(kind:Int)(rest:List UInt8)(e:Ending)(h:M):Prop :=
 KR b f w h/\((∃n t a c g,OkD kind rest n t/\e=ZF .nilIface/\RSt h b f (Z a g.length c) g/\g.map (·.1)=R.map (·.1)++[aV ⟨(af 32 rest).1.toArray⟩ kind n ⟨t.toArray⟩])∨((∀n t,¬ OkD kind rest n t)/\∃ty p,e=ZF (.iface ty p)))
theorem RSt.len{b f:Nat}{a:Option Addr}{c n:Nat}{R:List DR}(h:RSt w b f (Z a n c) R)(hn:R.length=n):RSt w b f (Z a R.length c) R:=by rw[hn];exact h
theorem Ah (t:List UInt8):t.length<=(aF t).length:=by
 have b:∀l:List UInt8,l.length<=(l.flatMap enc).length:=λl=>by
  induction l with
  |nil=>exact n6 _
  |cons c l ih =>have:=jF c;simp only[J2,cM,eL];omega
 rw[dx];have:=b t;simp only[cM,eL];omega
def DBk (w:M)(g:Nat)(b:Array ZC):Prop:=w.heap[g]?=T (N b 46 (0,0))
theorem DBk.lt (h:DBk w g b):g<w.heap.size:=(eT.1 h).1
theorem DBk.at (h:DBk w g b)(j:Nat)(c:b[j]?=T u):w.cell? (Q g j U)=T u:=by rw[HU h];exact c
theorem DBk.fz (h:DBk w g b)(j:Nat):w.frozen? (Q g j U)=ZA:=OP h j
theorem DBk.aa{b:M}(h:DBk w g c)(hb:Below B w b)(f:g<B):DBk b g c:=(hb.block g f).trans h
theorem DBk.set (h:DBk w g b)(j:Nat)(v:ZC):DBk (w.setCell (Q g j U) v) g (b.setIfInBounds j v):=by unfold DBk at *;simp[World.setCell,CP,h]
theorem Cy (K:Int)(hK:(K=1∨K=3)∨K=2)(b y:Nat)(a:Option Addr)(c:Nat)(R:List DR)(rest:ByteArray)(w:M)(hS:RSt w b y (Z a R.length c) R)(hn:(R.length:Int)<=400000)(hr:rest.size<=400000)(hL:Lay w):Calls Pg 245 #[.pointer (T (Q b 0 U)),J I K,Y rest] w λe w'=>Cx w b y R K rest.data.toList e w':=by
 have H:=ae (λV=>fv rest 32 V (by unfold maxLen;omega));have S0:=ae hS;have G:=ae (λV (hV:Below w.heap.size w V)=>hL.aa hV ly);have i:Hid ((∀n t,OkD 1 rest.data.toList n t ↔ n=0/\(af 32 rest.data.toList).2.1=aF t)/\OkD 2 rest.data.toList 0 []/\∀n t,OkD 3 rest.data.toList n t ↔ eO (af 32 (af 32 rest.data.toList).2.1).1 n/\(af 32 (af 32 rest.data.toList).2.1).2.1=aF t):=⟨λ_ _=>Iff.rfl,⟨rfl,rfl⟩,λ_ _=>Iff.rfl⟩
 have B:=cy 32 rest.data.toList;rw[aO] at B;unfold Cx;generalize rest.data.toList=S at H i B ⊢;generalize af 32 S=P at H i B ⊢;obtain⟨nm,rs,sp⟩:=P;dsimp only at H i B ⊢;have z:=ae (λV=>fv ⟨rs.toArray⟩ 32 V (by show rs.length<=_;unfold maxLen;omega));have ZP:=cy 32 rs;dsimp only at z;generalize af 32 rs=P2 at z i ZP;obtain⟨cd,O,sp2⟩:=P2;dsimp only at z i ZP;clear hS hL;obtain⟨i1,hi,aq,fd,dg⟩:=L8 fk;go_enter func245,ntmps245;go_wp2_with fail;refine(H _).mono ?_;rintro e w1 ⟨rfl,m,rfl⟩;have ZN:=BM (q9 w) m;generalize w.drewN m=s at ZN ⊢;have f:=ae (ZN.alloc ZN.size (N #[Y ⟨nm.toArray⟩,J I K,J I 0,Y ⟨#[]⟩,Z U 0 0,Z U 0 0] 46));have D:Hid (DBk (s.alloc (N #[Y ⟨nm.toArray⟩,J I K,J I 0,Y ⟨#[]⟩,Z U 0 0,Z U 0 0] 46)) s.heap.size #[Y ⟨nm.toArray⟩,J I K,J I 0,Y ⟨#[]⟩,Z U 0 0,Z U 0 0]):=nL s _;have j:w.heap.size<=s.heap.size:=ZN.size;clear ZN H;rcases hK with hK|rfl;focus
  rcases hK with rfl|rfl;rotate_left
  focus
   go_upto_region 8 with fail;generalize s.alloc (N #[Y ⟨nm.toArray⟩,J I 3,J I 0,Y ⟨#[]⟩,Z U 0 0,Z U 0 0] 46)=ZL at f D ⊢;generalize s.heap.size=u at D j ⊢;go_wp2_with fail;refine(z _).mono ?_;rintro e w1 ⟨rfl,m2,rfl⟩;have X:=BM (q9 ZL) m2;replace D:=ae (D.aa X D.lt);replace f:=ae (f.trans (X.mono f.size));clear X z;generalize ZL.drewN m2=E at f D ⊢;have ZI:=ae (iF ⟨cd.toArray⟩ E (by show cd.length<=_;omega) (G E f).sy (G E f).ra (G E f).n (G E f).pw);dsimp only[vd] at ZI;go_wp2_with fail;refine ZI.mono ?_;rintro e w3 ⟨ZO,C⟩;replace D:=ae (D.aa C D.lt);replace f:=ae (f.trans (C.mono f.size));clear C ZI;have c2:=D.at 2 rfl;have f2:=D.fz 2;have ZQ:=D.lt;rcases ZO with ⟨n,ZO,rfl⟩|⟨L,ty,p,rfl⟩
   rotate_left
   ·replace f:=ae (f.setCell (p:=(Q u 2 U)) j (J I 0))
    go_wp2;go_ret;exact⟨KR.u f ly,.inr ⟨λn t h=>L n ((i.2.2 n t).1 h).1,ty,p,rfl⟩⟩
   replace D:=ae (D.set 2 (J I n));replace f:=ae (f.setCell (p:=(Q u 2 U)) j (J I n));have ZM:Hid ((∀t,O=aF t->OkD 3 S n t)/\∀n t,OkD 3 S n t->O=aF t):=⟨λt h=>(i.2.2 n t).2 ⟨ZO,h⟩,λn t h=>((i.2.2 n t).1 h).2⟩
   clear ZO;go_upto_region 12 with fail;generalize w3.setCell (Q u 2 U) (J I n)=ZJ at D f ⊢;clear c2 f2 ZQ;obtain⟨x,rfl⟩:∃x,x=O:=⟨_,rfl⟩
  rotate_left
  focus
   go_upto_region 12 with fail;generalize s.alloc (N #[Y ⟨nm.toArray⟩,J I 1,J I 0,Y ⟨#[]⟩,Z U 0 0,Z U 0 0] 46)=ZJ at f D ⊢;generalize s.heap.size=u at D j ⊢;obtain⟨n,W⟩:∃n:Int,n=0:=⟨_,rfl⟩
   have ZM:Hid ((∀t,rs=aF t->OkD 1 S n t)/\∀n t,OkD 1 S n t->rs=aF t):=⟨λt h=>(i.1 n t).2 ⟨W,h⟩,λn t h=>((i.1 n t).1 h).2⟩
   rw[<-W] at D;clear W;obtain⟨x,rfl⟩:∃x,x=rs:=⟨_,rfl⟩
  all_goals
   have ZK:=ae (oz ⟨x.toArray⟩ ZJ (by show x.length<=_;omega) (G ZJ f).q);dsimp only[tY] at ZK;go_wp2_with fail;refine ZK.mono ?_;rintro e w2 ⟨hU,F⟩;replace D:=ae (D.aa F D.lt);replace f:=ae (f.trans (F.mono f.size));clear F ZK;have c3:=D.at 3 rfl;have f3:=D.fz 3;have ZQ:=D.lt;rcases hU with ⟨t,ht,rfl⟩|⟨L,ty,p,rfl⟩
   rotate_left
   ·replace f:=ae (f.setCell (p:=(Q u 3 U)) j (Y ⟨#[]⟩))
    go_wp2;go_ret;exact⟨KR.u f ly,.inr ⟨λn t h=>L t (ZM.2 n t h),ty,p,rfl⟩⟩
   replace D:=ae (D.set 3 (Y ⟨t.toArray⟩));replace f:=ae (f.setCell (p:=(Q u 3 U)) j (Y ⟨t.toArray⟩));have HO:=ae (ZM.1 t ht);clear ht;go_upto_region 15 with fail;generalize w2.setCell (Q u 3 U) (Y ⟨t.toArray⟩)=o at D f ⊢;clear c3 f3 ZQ
 rotate_left 2;focus
  go_upto_region 15 with fail;generalize s.alloc (N #[Y ⟨nm.toArray⟩,J I 2,J I 0,Y ⟨#[]⟩,Z U 0 0,Z U 0 0] 46)=o at f D ⊢;generalize s.heap.size=u at D j ⊢;obtain⟨n,t,ho,hd⟩:∃n t,OkD 2 S n t/\DBk o u #[Y ⟨nm.toArray⟩,J I 2,J I n,Y ⟨t.toArray⟩,Z U 0 0,Z U 0 0]:=⟨0,[],i.2.1,D⟩
  have HO:=ae ho;replace D:=ae hd;clear ho hd
 all_goals
  have r:=ae (S0.aa f);have K1:Hid (KR b y w o):=KR.u f ly;have c0:=D.at 0 rfl;have c1:=D.at 1 rfl;have c2:=D.at 2 rfl;have c3:=D.at 3 rfl;have c4:=D.at 4 rfl;have c5:=D.at 5 rfl;have ZQ:=D.lt;have r0:=r.G.c0;have r1:=r.G.fz;have O:=r.G.lt;have hle:=r.le
  go_region_law (first
   |(refine aG rfl (.tmp 55) (.tmp 57) 35 rfl y 46 i1 (.agg #[Y ⟨#[]⟩,J I 0,J I 0,Y ⟨#[]⟩,Z U 0 0,Z U 0 0]) 6 96 OT hi aq fd dg rfl (by decide) (Z a R.length c) R.length (R.flatMap ddV) (by simp[Act.eval]) (by first|exact r.row.i.alloc _|exact r.row.i.drew.alloc _|exact r.row.i.drew.drew.alloc _) (Q o.heap.size 0 U) 1 1 [Y ⟨nm.toArray⟩,J I _,J I n,Y ⟨t.toArray⟩,Z U 0 0,Z U 0 0] (by simp[Act.eval]) rfl (by first|exact dO o _ _ _ _ _ _ _|exact dO o.drew _ _ _ _ _ _ _|exact dO o.drew.drew _ _ _ _ _ _ _) (by simp[Value.oneCell']) (by unfold maxLen;omega) (by omega) (by simp;omega) ?_;intro v6 w6 l g bt;(first|have A:=ae (r.am (dB _ o) l g)|have A:=ae (r.am (dB _ o).drew l g)|have A:=ae (r.am (dB _ o).drew.drew l g));obtain⟨a6,c6,rfl⟩:=cJ l;have k0:=A.2.2.c0;have k1:=A.2.2.fz;have k2:=A.2.2.lt;clear l g bt))
  all_goals
   go_simp;go_wp2;go_ret;exact⟨K1.trans A.2.1,.inl ⟨n,t,a6,c6,R++[(aV ⟨nm.toArray⟩ _ n ⟨t.toArray⟩,Z U 0 0,Z U 0 0)],HO,rfl,A.1.len (by simp),by simp⟩⟩
abbrev rD:List UInt8:=[97,99,99,111,117,110,116]
abbrev vA:List UInt8:=[101,110,100]
abbrev kZ:List UInt8:=[115,111,117,114,99,101]
abbrev lc:List UInt8:=[110,111,110,101]
abbrev j4:List UInt8:=[116,97,114,103,101,116]
abbrev wDo:List UInt8:=[100,111]
abbrev iK:List UInt8:=[97,115,107]
abbrev iL:List UInt8:=[104,97,115]
theorem vB (h:0<=n):Lib.decDigits n.toNat=Lib.itoa n:=by rw[<-Lib.itoa_nonneg];congr 1;omega
theorem sO (b:0<=n)(h1:n<=400):eO (Lib.decDigits n.toNat) n:=⟨vB b,by omega,by omega⟩
theorem sP (h:eO s n)(k:eO s m):n=m:=by have h1:=iA h;have h2:=iA k;rw[h1] at h2;exact Lib.NumEnd.ok.inj h2
theorem qC{u:List UInt8}(h:aF t=aF u):t=u:=by rw[dx,dx] at h;simp only[IN,List.cons.injEq,TF] at h;exact gS (List.append_cancel_right h)
theorem Ii{k:Int}{u:List UInt8}(h:OkD k s n t)(b:OkD k s m u):n=m/\t=u:=by
 unfold OkD at h b;split at h;{rename_i f;rw[p6 f] at b;exact⟨sP h.1 b.1,qC (h.2.symm.trans b.2)⟩};{rename_i f;rw[gM f] at b;split at h;{rename_i c;rw[p6 c] at b;exact⟨h.1.trans b.1.symm,qC (h.2.symm.trans b.2)⟩};{rename_i c;rw[gM c] at b;exact⟨h.1.trans b.1.symm,h.2.trans b.2.symm⟩}}
theorem vC:∀n:Nat,(32:UInt8) ∉ Lib.decDigits n:=by
 intro n;induction n using Nat.strongRecOn with
 |ind n b =>
  rw[Lib.decDigits];split;{rename_i h;intro h2;have h3:=nD.1 h2;have h4:=wA UInt8.toNat h3;rw[NY] at h4;have c:(32:UInt8).toNat=32:=rfl;omega};{rename_i h;intro h2;rcases p8.1 h2 with h2|h2;{exact b (n / 10) (by omega) h2};{have h3:=nD.1 h2;have h4:=wA UInt8.toNat h3;rw[NY] at h4;have c:(32:UInt8).toNat=32:=rfl;omega}}
def GW (X:List Deed)(_S:List UInt8)(W:List UInt8)(rest:List UInt8)(ZI:List Deed):Prop :=
 (∃(D:List Deed),X=D/\W=rD/\ZI=D) ∨
 (∃(D:List Deed),X=D/\W=vA/\ZI=D) ∨
 (∃(D:List Deed) (t:List UInt8),OkD 1 rest 0 t/\X=D/\W=kZ/\ZI=(D++[aV ⟨(af 32 rest).1.toArray⟩ 1 0 ⟨t.toArray⟩])) ∨
 (∃(D:List Deed),X=D/\W=lc/\ZI=(D++[aV ⟨(af 32 rest).1.toArray⟩ 2 0 ⟨#[]⟩])) ∨
 (∃(D:List Deed) (t:List UInt8) (n:Int),OkD 3 rest n t/\0<=n/\n<=5/\X=D/\W=j4/\ZI=(D++[aV ⟨(af 32 rest).1.toArray⟩ 3 n ⟨t.toArray⟩])) ∨
 (∃(D:List Deed) (d:Deed) (i:I3),bE rest=T i/\X=(D++[d])/\W=wDo/\ZI=(D++[d.doA ⟨i.1,⟨i.2.1.toArray⟩,i.2.2⟩])) ∨
 (∃(D:List Deed) (d:Deed) (n:Int),eO (af 32 rest).2.1 n/\0<=n/\n<=400/\X=(D++[d])/\W=iK/\ZI=(D++[d.lkA ⟨⟨(af 32 rest).1.toArray⟩,ZG,ZA,n⟩])) ∨
 (∃(D:List Deed) (d:Deed),(32:UInt8) ∉ (af 32 rest).2.1/\X=(D++[d])/\W=iL/\ZI=(D++[d.lkA ⟨⟨(af 32 rest).1.toArray⟩,ZA,(af 32 rest).2.1 == [49],0⟩]))
theorem GW.acc (D:List Deed)(S rest:List UInt8):GW D S rD rest D:=.inl ⟨D,rfl,rfl,rfl⟩
theorem GW.fin (D:List Deed)(S rest:List UInt8):GW D S vA rest D:=.inr (.inl ⟨D,rfl,rfl,rfl⟩)
theorem GW.src (D:List Deed)(S rest t:List UInt8)(b:OkD 1 rest 0 t):GW D S kZ rest (D++[aV ⟨(af 32 rest).1.toArray⟩ 1 0 ⟨t.toArray⟩]):=.inr (.inr (.inl ⟨D,t,b,rfl,rfl,rfl⟩))
theorem GW.non (D:List Deed)(S rest:List UInt8):GW D S lc rest (D++[aV ⟨(af 32 rest).1.toArray⟩ 2 0 ⟨#[]⟩]):=.inr (.inr (.inr (.inl ⟨D,rfl,rfl,rfl⟩)))
theorem GW.R (D:List Deed)(S rest t:List UInt8)(n:Int)(b:OkD 3 rest n t)(h1:0<=n)(h2:n<=5):GW D S j4 rest (D++[aV ⟨(af 32 rest).1.toArray⟩ 3 n ⟨t.toArray⟩]):=.inr (.inr (.inr (.inr (.inl ⟨D,t,n,b,h1,h2,rfl,rfl,rfl⟩))))
theorem GW.H (D:List Deed)(d:Deed)(S rest:List UInt8)(i:I3)(b:bE rest=T i):GW (D++[d]) S wDo rest (D++[d.doA ⟨i.1,⟨i.2.1.toArray⟩,i.2.2⟩]):=.inr (.inr (.inr (.inr (.inr (.inl ⟨D,d,i,b,rfl,rfl,rfl⟩)))))
theorem GW.ask (D:List Deed)(d:Deed)(S rest:List UInt8)(n:Int)(b:eO (af 32 rest).2.1 n)(h1:0<=n)(h2:n<=400):GW (D++[d]) S iK rest (D++[d.lkA ⟨⟨(af 32 rest).1.toArray⟩,ZG,ZA,n⟩]):=.inr (.inr (.inr (.inr (.inr (.inr (.inl ⟨D,d,n,b,h1,h2,rfl,rfl,rfl⟩))))))
theorem GW.has (D:List Deed)(d:Deed)(S rest:List UInt8)(b:(32:UInt8) ∉ (af 32 rest).2.1):GW (D++[d]) S iL rest (D++[d.lkA ⟨⟨(af 32 rest).1.toArray⟩,ZA,(af 32 rest).2.1 == [49],0⟩]):=.inr (.inr (.inr (.inr (.inr (.inr (.inr ⟨D,d,b,rfl,rfl,rfl⟩))))))
theorem ec{w y:List UInt8}(b:(32:UInt8) ∉ w):af 32 (w++32::y)=(w,y,ZG):=lp y b
theorem fM (h:Good D S G):GW D S (af 32 S).1 (af 32 S).2.1 G:=by
 rcases h with ⟨i,n,rfl,rfl,rfl⟩|⟨i,rfl,rfl,rfl⟩|⟨i,d,f,rfl,rfl,rfl⟩|⟨i,d,f,rfl,rfl,rfl⟩|⟨i,d,f,c,y,rfl,rfl,rfl⟩|⟨D,d,x,q,rfl,rfl,rfl⟩|⟨D,d,l,m,c,h4,u,hb,rfl,rfl,rfl⟩
 {rw[show[97,99,99,111,117,110,116,32]++Lib.decDigits n=rD++32::Lib.decDigits n from rfl,ec (by decide)];exact GW.acc _ _ _};{exact GW.fin _ _ _}
 ·have e:iD d=kZ++32::(d.e.data.toList++32::aF d.B.data.toList):=by simp[iD]
  have b:af 32 (d.e.data.toList++32::aF d.B.data.toList)=(d.e.data.toList,aF d.B.data.toList,ZG):=ec f;rw[e,ec (by decide)];have g:=GW.src D (kZ++32::(d.e.data.toList++32::aF d.B.data.toList)) (d.e.data.toList++32::aF d.B.data.toList) d.B.data.toList ⟨rfl,by rw[b]⟩;rw[b] at g;exact g
 ·have e:fT d=lc++32::d.e.data.toList:=by simp[fT]
  rw[e,ec (by decide)];have g:=GW.non D (lc++32::d.e.data.toList) d.e.data.toList;rw[gE f] at g;exact g
 ·have e:eE d=j4++32::(d.e.data.toList++32::(Lib.decDigits d.E.toNat++32::aF d.B.data.toList)):=by simp[eE]
  have b:af 32 (d.e.data.toList++32::(Lib.decDigits d.E.toNat++32::aF d.B.data.toList))=(d.e.data.toList,Lib.decDigits d.E.toNat++32::aF d.B.data.toList,ZG):=ec f;have r:af 32 (Lib.decDigits d.E.toNat++32::aF d.B.data.toList)=(Lib.decDigits d.E.toNat,aF d.B.data.toList,ZG):=ec (vC _);rw[e,ec (by decide)];have g:=GW.R D (j4++32::(d.e.data.toList++32::(Lib.decDigits d.E.toNat++32::aF d.B.data.toList))) (d.e.data.toList++32::(Lib.decDigits d.E.toNat++32::aF d.B.data.toList)) d.B.data.toList d.E (by unfold OkD;rw[p6 rfl,b,r];exact⟨sO c (by omega),rfl⟩) c y;rw[b] at g;exact g
 ·have e:doT x=wDo++32::aR x.op x.s.data.toList x.n:=by simp[doT]
  rw[e,ec (by decide)];have p:bE (aR x.op x.s.data.toList x.n)=T (x.op,x.s.data.toList,x.n):=lS ⟨by simpa using q,rfl⟩;have g:=GW.H D d (wDo++32::aR x.op x.s.data.toList x.n) _ _ p;exact g
 ·cases hk:l.ask with
  |true =>
   have e:dH l=iK++32::(l.e.data.toList++32::Lib.decDigits l.L.toNat):=by simp[dH,hk]
   have b:af 32 (l.e.data.toList++32::Lib.decDigits l.L.toNat)=(l.e.data.toList,Lib.decDigits l.L.toNat,ZG):=ec m;rw[e,ec (by decide)];have g:=GW.ask D d (iK++32::(l.e.data.toList++32::Lib.decDigits l.L.toNat)) (l.e.data.toList++32::Lib.decDigits l.L.toNat) l.L (by rw[b];exact sO c h4) c h4;rw[b] at g;have j:d.lkA l=d.lkA ⟨⟨l.e.data.toList.toArray⟩,ZG,ZA,l.L⟩:=by have h1:=u hk;clear e b g;obtain⟨nm,t,o,a0⟩:=l;simp only at hk h1;subst hk h1;rfl
   rw[j];exact g
  |false =>
   have e:dH l=iL++32::(l.e.data.toList++32::(if l.has=ZG then [49] else [48])):=by simp[dH,hk]
   have b:af 32 (l.e.data.toList++32::(if l.has=ZG then [49] else [48]))=(l.e.data.toList,(if l.has=ZG then [49] else [48]),ZG):=ec m;rw[e,ec (by decide)];have g:=GW.has D d (iL++32::(l.e.data.toList++32::(if l.has=ZG then [49] else [48]))) (l.e.data.toList++32::(if l.has=ZG then [49] else [48])) (by rw[b];show(32:UInt8) ∉ (if l.has=ZG then [49] else [48]);split<;>decide);rw[b] at g;have j:d.lkA l=d.lkA ⟨⟨l.e.data.toList.toArray⟩,ZA,(if l.has=ZG then ([49]:List UInt8) else [48]) == [49],0⟩:=by have h1:=hb hk;clear e b g;obtain⟨nm,t,o,a0⟩:=l;simp only at hk h1;subst hk h1;cases o<;>rfl
   rw[j];exact g
theorem fN (w:M)(x y z:ZC)(t:TypeId):∀j u,[x,y,z][j]?=T u->(w.alloc (N #[x,y,z] t)).cell? (((Q w.heap.size 0 U):Addr).add j)=T u:=by intro j u b;rw[addr_add,FM];exact jj w _ t w.heap.size j u rfl (by simpa using b)
theorem ey (w:M)(x y z v:ZC)(t:TypeId):∀j u,[x,y,z,v][j]?=T u->(w.alloc (N #[x,y,z,v] t)).cell? (((Q w.heap.size 0 U):Addr).add j)=T u:=by intro j u b;rw[addr_add,FM];exact jj w _ t w.heap.size j u rfl (by simpa using b)
def LBk (w:M)(g:Nat)(b:Array ZC):Prop:=w.heap[g]?=T (N b 91 (0,0))
theorem LBk.lt (h:LBk w g b):g<w.heap.size:=(eT.1 h).1
theorem LBk.at (h:LBk w g b)(j:Nat)(c:b[j]?=T u):w.cell? (Q g j U)=T u:=by rw[HU h];exact c
theorem LBk.fz (h:LBk w g b)(j:Nat):w.frozen? (Q g j U)=ZA:=OP h j
theorem LBk.aa{b:M}(h:LBk w g c)(hb:Below B w b)(f:g<B):LBk b g c:=(hb.block g f).trans h
theorem LBk.set (h:LBk w g b)(j:Nat)(v:ZC):LBk (w.setCell (Q g j U) v) g (b.setIfInBounds j v):=by unfold LBk at *;simp[World.setCell,CP,h]
theorem vD{i:I3}(h:bE s=T i):aH i.1 i.2.1.length i.2.2=ZG:=(oR h).1
theorem Cz (b h g c:Nat)(R:List DR)(r:DR)(rest:ByteArray)(w:M)(hS:RSt w b h (Z (T (Q g 0 U)) (R.length+1) c) (R++[r]))(hn:(R.length:Int)<=400000)(hr:rest.size<=400000)(hk:(r.1.f:Int)<=400000)(hL:Lay w):Calls Pg 246 #[.pointer (T (Q b 0 U)),Y ⟨#[100,111]⟩,Y rest] w λe w'=>KR b h w w'/\((∃i v',bE rest.data.toList=T i/\e=ZF .nilIface/\RSt w' b h (Z (T (Q g 0 U)) (R.length+1) c) (R++[(r.1.doA ⟨i.1,⟨i.2.1.toArray⟩,i.2.2⟩,v',r.2.2)]))∨(bE rest.data.toList=U/\∃ty p,e=ZF (.iface ty p))):=by
 have ZO:=ae (λV=>fv rest 32 V (by unfold maxLen;omega));have S0:=ae hS;have D:=cy 32 rest.data.toList;rw[aO] at D;have L0:=ae (λV (W:Below w.heap.size w V)=>hL.aa W ly);have RI:=ae (λV (W:Below w.heap.size w V)=>xk rest V (by omega) (L0 V W));generalize bE rest.data.toList=rd at RI ⊢;generalize af 32 rest.data.toList=P at ZO D;obtain⟨nm,rs,sp⟩:=P;dsimp only at ZO D;clear hS hL;obtain⟨i1,hi,aq,dg,bt⟩:=L8 li;have r0:=S0.G.c0;have r2:=S0.G.lt;have q0:¬ ((R.length:Int)+1=0):=by omega
 have q1:(0:Int)<=(R.length:Int):=by omega
 have q2:(R.length:Int)<(R.length:Int)+1:=by omega
 have q3:(R.length:Int)+1 - 1=(R.length:Int):=by omega
 go_enter func246,ntmps246;go_upto_region 3 with fail;go_quiet (fail);have O:=BM (q9 w) nq;generalize w.drewN nq=ZI at O ⊢;go_wp2_with fail;refine(ZO _).mono ?_;rintro e w1 ⟨rfl,m,rfl⟩;have K:=O.trans ((BM (q9 ZI) m).mono O.size);generalize ZI.drewN m=C at K ⊢;clear r0 r2 q0 q1 q2 q3 O ZO;have ZJ:=ae K.size;have q:=ae (K.alloc K.size (N #[Y ⟨nm.toArray⟩,ZD ZA,ZD ZA,J I 0] 91));have X:Hid (LBk (C.alloc (N #[Y ⟨nm.toArray⟩,ZD ZA,ZD ZA,J I 0] 91)) C.heap.size #[Y ⟨nm.toArray⟩,ZD ZA,ZD ZA,J I 0]):=nL C _;clear K;go_upto_region 7 with fail;generalize C.alloc (N #[Y ⟨nm.toArray⟩,ZD ZA,ZD ZA,J I 0] 91)=F at q X ⊢;generalize C.heap.size=lB at X ZJ ⊢;have y:=ae (q.alloc q.size (N #[J I 0,Y ⟨#[]⟩,J I 0] 151));have H:Hid (CI (F.alloc (N #[J I 0,Y ⟨#[]⟩,J I 0] 151)) F.heap.size (J I 0) (Y ⟨#[]⟩) (J I 0)):=nL F _;have ZL:=ae q.size;go_upto_region 12 with fail;generalize F.alloc (N #[J I 0,Y ⟨#[]⟩,J I 0] 151)=W3 at y H ⊢;generalize F.heap.size=l at H ZL ⊢;clear q X ZJ;go_wp2_with fail;refine(RI W3 y).mono ?_;rintro e w4 ⟨hR,L⟩;have G:=ae (y.trans (L.mono y.size));have s:=ae (H.aa L H.lt);clear L RI y H;have o:w.heap.size<=l:=ZL.out;have c0:=s.c0;have c1:=s.c1;have c2:=s.c2;have f0:=s.fz 0;have f1:=s.fz 1;have f2:=s.fz 2;have cl:=s.lt;cases rd with
 |none =>
  obtain⟨ty,p,rfl⟩:=hR;have ZM:=ae (((G.setCell (p:=(Q l 0 U)) o (J I 0)).setCell (p:=(Q l 1 U)) o (Y ⟨#[]⟩)).setCell (p:=(Q l 2 U)) o (J I 0));go_wp2;go_ret;first
   |exact⟨KR.u ZM ly,.inr ⟨rfl,ty,p,rfl⟩⟩
   |exact⟨KR.u ZM ly,ty,p,rfl⟩
 |some i =>
  obtain⟨op,tx,n⟩:=i;have hR:e=ZF (.tuple #[.agg #[J I op,Y ⟨tx.toArray⟩,J I n],.nilIface]):=hR;subst hR;have ZP:=ae (s.all (J I op) (Y ⟨tx.toArray⟩) (J I n));have q:=ae (((G.setCell (p:=(Q l 0 U)) o (J I op)).setCell (p:=(Q l 1 U)) o (Y ⟨tx.toArray⟩)).setCell (p:=(Q l 2 U)) o (J I n));go_upto_region 15 with fail;generalize ((w4.setCell (Q l 0 U) (J I op)).setCell (Q l 1 U) (Y ⟨tx.toArray⟩)).setCell (Q l 2 U) (J I n)=z at ZP q ⊢;clear c0 c1 c2 f0 f1 f2 cl s G;have c0:=ZP.c0;have c1:=ZP.c1;have c2:=ZP.c2;have cl:=ZP.lt;have B:=ae (S0.aa q);have K1:Hid (KR b h w z):=KR.u q ly;have ZK:(R++[r]).length=R.length+1:=by simp
  have cell:=cR (by rw[ZK];have:=B.row.i;rw[ZK] at this;exact this) (i:=R.length) (r:=r) (by simp) 4 (by omega) (u:=r.2.1) rfl;have m0:=cell.1;have S:=B.row.i.lt g rfl;have hgl2:=S.2;have hle:=B.le;have ZQ:=ae (B.row.sub r (by simp)).H;obtain⟨av,cv,E⟩:=cJ ZQ;have ZN:=ae E;rw[E] at m0;clear cell S E ZK
  go_region_law (first
   |(refine aG rfl (.tmp 63) (.tmp 65) 41 rfl h 151 i1 (.agg #[J I 0,Y ⟨#[]⟩,J I 0]) 3 32 RB hi aq dg bt rfl (by decide) (Z av r.1.f cv) r.1.f (bJ r.1.H r.1.f) (by simp[Act.eval]) (by rw[<-ZN.out];first|exact ZQ.alloc _|exact ZQ.drew.alloc _|exact ZQ.drew.drew.alloc _) (Q z.heap.size 0 U) 1 1 [J I op,Y ⟨tx.toArray⟩,J I n] (by simp[Act.eval]) rfl (by first|exact fN z _ _ _ _|exact fN z.drew _ _ _ _|exact fN z.drew.drew _ _ _ _) (by simp[Value.oneCell']) (by unfold maxLen;omega) (by omega) (by simp;omega) ?_;intro v6 w6 j f t;rw[<-ZN.out] at f t;(first|have A:=ae (B.moreA (x:=⟨op,⟨tx.toArray⟩,n⟩) (dB _ z) j f t)|have A:=ae (B.moreA (x:=⟨op,⟨tx.toArray⟩,n⟩) (dB _ z).drew j f t)|have A:=ae (B.moreA (x:=⟨op,⟨tx.toArray⟩,n⟩) (dB _ z).drew.drew j f t));obtain⟨a6,c6,rfl⟩:=cJ j;have k0:=A.2.2.1;have k1:=A.2.2.2.1;have k2:=A.2.2.2.2;rw[ZN.out] at k0;clear j f t))
  all_goals
   go_simp;go_wp2;go_ret;exact⟨K1.trans A.2.1,.inl ⟨(op,tx,n),_,rfl,rfl,A.1⟩⟩
def LkR (A:Bool)(P:List UInt8 × List UInt8 × Bool)(l:Link):Prop:=if A=ZG then ∃n,eO P.2.1 n/\l=⟨⟨P.1.toArray⟩,ZG,ZA,n⟩ else l=⟨⟨P.1.toArray⟩,ZA,P.2.1 == [49],0⟩
theorem CB (A:Bool)(b s g c:Nat)(R:List DR)(r:DR)(rest:ByteArray)(w:M)(hS:RSt w b s (Z (T (Q g 0 U)) (R.length+1) c) (R++[r]))(hn:(R.length:Int)<=400000)(hr:rest.size<=400000)(hk:(r.1.b:Int)<=400000)(hL:Lay w):Calls Pg 246 #[.pointer (T (Q b 0 U)),Y (if A=ZG then ⟨#[97,115,107]⟩ else ⟨#[104,97,115]⟩),Y rest] w λe w'=>KR b s w w'/\((∃l v',LkR A (af 32 rest.data.toList) l/\e=ZF .nilIface/\RSt w' b s (Z (T (Q g 0 U)) (R.length+1) c) (R++[(r.1.lkA l,r.2.1,v')]))∨((∀l,¬ LkR A (af 32 rest.data.toList) l)/\∃ty p,e=ZF (.iface ty p))):=by
 have CU:=ae (λV=>fv rest 32 V (by unfold maxLen;omega));have S0:=ae hS;have O:=cy 32 rest.data.toList;rw[aO] at O;have L0:=ae (λV (ZK:Below w.heap.size w V)=>hL.aa ZK ly);generalize af 32 rest.data.toList=P at CU O ⊢;obtain⟨nm,rs,sp⟩:=P;dsimp only at CU O ⊢;clear hS hL;obtain⟨i1,hi,dg,mv,fd⟩:=L8 iy;have r0:=S0.G.c0;have r2:=S0.G.lt;have q0:¬ ((R.length:Int)+1=0):=by omega
 have q1:(0:Int)<=(R.length:Int):=by omega
 have q2:(R.length:Int)<(R.length:Int)+1:=by omega
 have q3:(R.length:Int)+1 - 1=(R.length:Int):=by omega
 cases A
 all_goals
  simp only[if_true,TA,WO];go_enter func246,ntmps246;go_upto_region 3 with fail;go_quiet (fail);have B0:=BM (q9 w) nq;generalize w.drewN nq=W0 at B0 ⊢;go_wp2_with fail;refine(CU _).mono ?_;rintro e w1 ⟨rfl,m,rfl⟩;have X:=B0.trans ((BM (q9 W0) m).mono B0.size);generalize W0.drewN m=ZQ at X ⊢;clear r0 r2 q0 q1 q2 q3 B0 CU;have bt:=ae X.size;have f:=ae (X.alloc X.size (N #[Y ⟨nm.toArray⟩,ZD ZA,ZD ZA,J I 0] 91));have j:Hid (LBk (ZQ.alloc (N #[Y ⟨nm.toArray⟩,ZD ZA,ZD ZA,J I 0] 91)) ZQ.heap.size #[Y ⟨nm.toArray⟩,ZD ZA,ZD ZA,J I 0]):=nL ZQ _;clear X;go_upto_region 7 with fail;generalize ZQ.alloc (N #[Y ⟨nm.toArray⟩,ZD ZA,ZD ZA,J I 0] 91)=K at f j ⊢;generalize ZQ.heap.size=q at j bt ⊢;have D:w.heap.size<=q:=bt.out
 focus
  have la:∃hb:Bool,hb=(rs == [49]):=⟨_,rfl⟩
  obtain⟨hb,ZP⟩:=la;replace ZP:=ae ZP;have c1:=j.at 1 rfl;have c2:=j.at 2 rfl;have f2:=j.fz 2;have E:=j.lt;have B:=ae (j.set 2 (ZD hb));replace f:=ae (f.setCell (p:=(Q q 2 U)) D (ZD hb));go_wp2_with fail;refine(yg ZG _).mono ?_;rintro e V ⟨rfl,ZK⟩;rw[ZK];clear ZK;go_upto_region 21 with fail;rw[<-ZP.out];generalize K.setCell (Q q 2 U) (ZD hb)=y at B f ⊢;clear c1 c2 f2 E j;have LL:Hid (∃l:Link,LkR ZA (nm,rs,sp) l/\LBk y q #[Y l.e,ZD l.ask,ZD l.has,J I l.L]):=⟨⟨⟨nm.toArray⟩,ZA,hb,0⟩,by rw[ZP.out];rfl,B⟩
 rotate_left;focus
  have N2:=ae (iF ⟨rs.toArray⟩ K (by show rs.length<=_;omega) (L0 K f).sy (L0 K f).ra (L0 K f).n (L0 K f).pw);dsimp only[vd] at N2;go_wp2_with fail;refine N2.mono ?_;rintro e w3 ⟨ZI,ZO⟩;have ZM:=ae (f.trans (ZO.mono f.size));have B:=ae (j.aa ZO j.lt);clear ZO N2 f j;have c3:=B.at 3 rfl;have f3:=B.fz 3;have E:=B.lt;rcases ZI with ⟨n,ZI,rfl⟩|⟨ld,ty,p,rfl⟩
  rotate_left
  ·have C:=ae (ZM.setCell (p:=(Q q 3 U)) D (J I 0))
   go_wp2;go_ret;exact⟨KR.u C ly,.inr ⟨λl ⟨n,h,_⟩=>ld n h,ty,p,rfl⟩⟩
  have ZN:=ae (B.set 3 (J I n));have C:=ae (ZM.setCell (p:=(Q q 3 U)) D (J I n));have HN:=ae ZI;clear ZI;go_upto_region 19 with fail;generalize w3.setCell (Q q 3 U) (J I n)=W4 at ZN C ⊢;clear c3 f3 E B ZM;have c1:=ZN.at 1 rfl;have f1:=ZN.fz 1;have E:=ZN.lt;have F:=ae (ZN.set 1 (ZD ZG));have ZJ:=ae (C.setCell (p:=(Q q 1 U)) D (ZD ZG));go_upto_region 20 with fail;generalize W4.setCell (Q q 1 U) (ZD ZG)=W5 at F ZJ ⊢;clear c1 f1 E ZN C;have c1:=F.at 1 rfl;have c2:=F.at 2 rfl;have f2:=F.fz 2;have E:=F.lt;have j:=ae (F.set 2 (ZD ZA));have f:=ae (ZJ.setCell (p:=(Q q 2 U)) D (ZD ZA));go_upto_region 21 with fail;generalize W5.setCell (Q q 2 U) (ZD ZA)=y at j f ⊢;clear c1 c2 f2 E F ZJ;have LL:Hid (∃l:Link,LkR ZG (nm,rs,sp) l/\LBk y q #[Y l.e,ZD l.ask,ZD l.has,J I l.L]):=⟨⟨⟨nm.toArray⟩,ZG,ZA,n⟩,⟨n,HN,rfl⟩,j⟩
 all_goals
  obtain⟨l,L,hK⟩:=LL.out;have HL:=ae L;have ZL:=ae hK;clear L hK LL;have l0:=ZL.at 0 rfl;have l1:=ZL.at 1 rfl;have l2:=ZL.at 2 rfl;have l3:=ZL.at 3 rfl;have fl:=ZL.lt;have H:=ae (S0.aa f);have K1:Hid (KR b s w y):=KR.u f ly;have L:(R++[r]).length=R.length+1:=by simp
  have cell:=cR (by rw[L];have:=H.row.i;rw[L] at this;exact this) (i:=R.length) (r:=r) (by simp) 5 (by omega) (u:=r.2.2) rfl;have m0:=cell.1;have aq:=H.row.i.lt g rfl;have hgl2:=aq.2;have hle:=H.le;have U1:=ae (H.row.sub r (by simp)).V;obtain⟨av,cv,S⟩:=cJ U1;have W:=ae S;rw[S] at m0;clear cell aq S L
  go_region_law (first
   |(refine aG rfl (.tmp 93) (.tmp 95) 44 rfl s 91 i1 (.agg #[Y ⟨#[]⟩,ZD ZA,ZD ZA,J I 0]) 4 32 QV hi dg mv fd rfl (by decide) (Z av r.1.b cv) r.1.b (bq r.1.D r.1.b) (by simp[Act.eval]) (by rw[<-W.out];first|exact U1.alloc _|exact U1.drew.alloc _|exact U1.drew.drew.alloc _) (Q y.heap.size 0 U) 1 1 [Y l.e,ZD l.ask,ZD l.has,J I l.L] (by simp[Act.eval]) rfl (by first|exact ey y _ _ _ _ _|exact ey y.drew _ _ _ _ _|exact ey y.drew.drew _ _ _ _ _) (by simp[Value.oneCell']) (by unfold maxLen;omega) (by omega) (by simp;omega) ?_;intro v6 w6 t o z;rw[<-W.out] at o z;(first|have G:=ae (H.moreL (x:=l) (dB _ y) t o z)|have G:=ae (H.moreL (x:=l) (dB _ y).drew t o z)|have G:=ae (H.moreL (x:=l) (dB _ y).drew.drew t o z));obtain⟨a6,c6,rfl⟩:=cJ t;have k0:=G.2.2.1;have k1:=G.2.2.2.1;have k2:=G.2.2.2.2;rw[W.out] at k0;clear t o z))
  all_goals
   go_simp;go_wp2;go_ret;exact⟨K1.trans G.2.1,.inl ⟨l,_,HL,rfl,G.1⟩⟩
theorem rE (h:GW D S W rest G)(e:W=rD∨W=vA):G=D:=by rcases h with ⟨_,rfl,rfl,rfl⟩|⟨_,rfl,rfl,rfl⟩|⟨_,_,_,rfl,rfl,rfl⟩|⟨_,rfl,rfl,rfl⟩|⟨_,_,_,_,_,_,rfl,rfl,rfl⟩|⟨_,_,_,_,rfl,rfl,rfl⟩|⟨_,_,_,_,_,_,rfl,rfl,rfl⟩|⟨_,_,_,rfl,rfl,rfl⟩<;>first|rfl|(rcases e with e|e<;>exact absurd e (by decide))
theorem CF (h:GW D S W rest G)(e:W=kZ):∃t,OkD 1 rest 0 t/\G=D++[aV ⟨(af 32 rest).1.toArray⟩ 1 0 ⟨t.toArray⟩]:=by rcases h with ⟨_,rfl,rfl,rfl⟩|⟨_,rfl,rfl,rfl⟩|⟨_,_,_,rfl,rfl,rfl⟩|⟨_,rfl,rfl,rfl⟩|⟨_,_,_,_,_,_,rfl,rfl,rfl⟩|⟨_,_,_,_,rfl,rfl,rfl⟩|⟨_,_,_,_,_,_,rfl,rfl,rfl⟩|⟨_,_,_,rfl,rfl,rfl⟩<;>first|exact absurd e (by decide)|exact⟨_,by assumption,rfl⟩
theorem CG (h:GW D S W rest G)(e:W=lc):G=D++[aV ⟨(af 32 rest).1.toArray⟩ 2 0 ⟨#[]⟩]:=by rcases h with ⟨_,rfl,rfl,rfl⟩|⟨_,rfl,rfl,rfl⟩|⟨_,_,_,rfl,rfl,rfl⟩|⟨_,rfl,rfl,rfl⟩|⟨_,_,_,_,_,_,rfl,rfl,rfl⟩|⟨_,_,_,_,rfl,rfl,rfl⟩|⟨_,_,_,_,_,_,rfl,rfl,rfl⟩|⟨_,_,_,rfl,rfl,rfl⟩<;>first|exact absurd e (by decide)|rfl
theorem Js (h:GW D S W rest G)(e:W=j4):∃n t,OkD 3 rest n t/\G=D++[aV ⟨(af 32 rest).1.toArray⟩ 3 n ⟨t.toArray⟩]:=by rcases h with ⟨_,rfl,rfl,rfl⟩|⟨_,rfl,rfl,rfl⟩|⟨_,_,_,rfl,rfl,rfl⟩|⟨_,rfl,rfl,rfl⟩|⟨_,_,_,_,_,_,rfl,rfl,rfl⟩|⟨_,_,_,_,rfl,rfl,rfl⟩|⟨_,_,_,_,_,_,rfl,rfl,rfl⟩|⟨_,_,_,rfl,rfl,rfl⟩<;>first|exact absurd e (by decide)|exact⟨_,_,by assumption,rfl⟩
theorem Gw (h:GW D S W rest G)(e:W=wDo):∃b d i,D=b++[d]/\bE rest=T i/\G=b++[d.doA ⟨i.1,⟨i.2.1.toArray⟩,i.2.2⟩]:=by rcases h with ⟨_,rfl,rfl,rfl⟩|⟨_,rfl,rfl,rfl⟩|⟨_,_,_,rfl,rfl,rfl⟩|⟨_,rfl,rfl,rfl⟩|⟨_,_,_,_,_,_,rfl,rfl,rfl⟩|⟨_,_,_,_,rfl,rfl,rfl⟩|⟨_,_,_,_,_,_,rfl,rfl,rfl⟩|⟨_,_,_,rfl,rfl,rfl⟩<;>first|exact absurd e (by decide)|exact⟨_,_,_,rfl,by assumption,rfl⟩
theorem Jt (h:GW D S W rest G)(e:W=iK):∃b d n,D=b++[d]/\eO (af 32 rest).2.1 n/\G=b++[d.lkA ⟨⟨(af 32 rest).1.toArray⟩,ZG,ZA,n⟩]:=by rcases h with ⟨_,rfl,rfl,rfl⟩|⟨_,rfl,rfl,rfl⟩|⟨_,_,_,rfl,rfl,rfl⟩|⟨_,rfl,rfl,rfl⟩|⟨_,_,_,_,_,_,rfl,rfl,rfl⟩|⟨_,_,_,_,rfl,rfl,rfl⟩|⟨_,_,_,_,_,_,rfl,rfl,rfl⟩|⟨_,_,_,rfl,rfl,rfl⟩<;>first|exact absurd e (by decide)|exact⟨_,_,_,rfl,by assumption,rfl⟩
theorem Ju (h:GW D S W rest G)(e:W=iL):∃b d,D=b++[d]/\G=b++[d.lkA ⟨⟨(af 32 rest).1.toArray⟩,ZA,(af 32 rest).2.1 == [49],0⟩]:=by rcases h with ⟨_,rfl,rfl,rfl⟩|⟨_,rfl,rfl,rfl⟩|⟨_,_,_,rfl,rfl,rfl⟩|⟨_,rfl,rfl,rfl⟩|⟨_,_,_,_,_,_,rfl,rfl,rfl⟩|⟨_,_,_,_,rfl,rfl,rfl⟩|⟨_,_,_,_,_,_,rfl,rfl,rfl⟩|⟨_,_,_,rfl,rfl,rfl⟩<;>first|exact absurd e (by decide)|exact⟨_,_,rfl,rfl⟩
theorem yy (h:GW D S W rest G):W=rD∨W=vA∨W=kZ∨W=lc∨W=j4∨W=wDo∨W=iK∨W=iL:=by rcases h with ⟨_,rfl,rfl,rfl⟩|⟨_,rfl,rfl,rfl⟩|⟨_,_,_,rfl,rfl,rfl⟩|⟨_,rfl,rfl,rfl⟩|⟨_,_,_,_,_,_,rfl,rfl,rfl⟩|⟨_,_,_,_,rfl,rfl,rfl⟩|⟨_,_,_,_,_,_,rfl,rfl,rfl⟩|⟨_,_,_,rfl,rfl,rfl⟩<;>simp
theorem iX{c:Type}(R:List c):R=[]∨∃b r,R=b++[r]:=by
 rcases List.eq_nil_or_concat R with h|⟨x,y,h⟩
 {exact .inl h};{exact .inr ⟨x,y,by rw[h,List.concat_eq_append]⟩}
def CH (w:M)(b c k:Nat)(R:List DR)(S:List UInt8)(e:Ending)(g:M):Prop :=
 KR b c w g/\((∃i h f,e=ZF .nilIface/\RSt g b c (Z i f.length h) f/\SzD (k+1) (f.map (·.1))/\∀G,Good (R.map (·.1)) S G->f.map (·.1)=G)∨((∀G,¬ Good (R.map (·.1)) S G)/\∃ty p,e=ZF (.iface ty p)))
theorem xw (b f:Nat)(a:Option Addr)(c:Nat)(wd rest:ByteArray)(w:M)(g:RSt w b f (Z a 0 c) [])(i:EV w 3):Calls Pg 246 #[.pointer (T (Q b 0 U)),Y wd,Y rest] w λe h=>KR b f w h/\∃ty p,e=ZF (.iface ty p):=by have r0:=g.G.c0;have r2:=g.G.lt;obtain⟨hz,ty,p,he⟩:=i;clear g;go_enter func246,ntmps246;go_wp2;go_ret;exact⟨KR.refl _ _ _,ty,p,rfl⟩
theorem Ij{K:Int}(h:GW D S W rest G)(e:K=1/\W=kZ∨K=2/\W=lc∨K=3/\W=j4):∃n t,OkD K rest n t/\G=D++[aV ⟨(af 32 rest).1.toArray⟩ K n ⟨t.toArray⟩]:=by
 rcases e with ⟨rfl,e⟩|⟨rfl,e⟩|⟨rfl,e⟩
 {obtain⟨t,h1⟩:=CF h e;exact⟨0,t,h1⟩};{exact⟨0,[],⟨rfl,rfl⟩,CG h e⟩};{exact Js h e}
theorem Ik{k:Int}(h:OkD k s n t):t.length<=s.length:=by
 have h1:=Ah t;have h2:=cy 32 s;have h3:=cy 32 (af 32 s).2.1;unfold OkD at h;split at h;{rw[<-h.2] at h1;omega};{split at h;{rw[<-h.2] at h1;omega};{rw[h.2];exact E4 _}}
def WiR (W s:List UInt8)(d b:Deed):Prop:=(W=wDo/\∃i,bE s=T i/\b=d.doA ⟨i.1,⟨i.2.1.toArray⟩,i.2.2⟩)∨∃A l,W=(if A=ZG then iK else iL)/\LkR A (af 32 s) l/\b=d.lkA l
theorem Il (h:GW D S W rest G)(e:W=wDo∨W=iK∨W=iL):∃b d c,D=b++[d]/\WiR W rest d c/\G=b++[c]:=by
 rcases e with e|e|e;{obtain⟨b,d,i,h1,h2,h3⟩:=Gw h e;exact⟨b,d,_,h1,.inl ⟨e,i,h2,rfl⟩,h3⟩};{obtain⟨b,d,n,h1,h2,h3⟩:=Jt h e;exact⟨b,d,_,h1,.inr ⟨ZG,_,e,⟨n,h2,rfl⟩,rfl⟩,h3⟩};{obtain⟨b,d,h1,h3⟩:=Ju h e;exact⟨b,d,_,h1,.inr ⟨ZA,_,e,rfl,rfl⟩,h3⟩}
theorem Jv{d y:Deed}(h:WiR W s d x)(k:WiR W s d y):x=y:=by
 rcases h with ⟨rfl,i,h1,rfl⟩|⟨A,l,rfl,h1,rfl⟩<;>rcases k with ⟨e,j,b,rfl⟩|⟨B,m,e,b,rfl⟩
 ·rw[h1] at b;cases b
  rfl
 {cases B<;>simp at e};{cases A<;>simp at e}
 ·cases A<;>cases B<;>first|(simp at e;done)|skip
  {rw[show l=m from Eq.trans h1 b.symm]};{obtain⟨n,h1,rfl⟩:=h1;obtain⟨o,b,rfl⟩:=b;rw[sP h1 b]}
theorem J9{k:Nat}{d:Deed}(h:WiR W s d x)(hz:SzD k (D++[d]))(hs:s.length<=300000):SzD (k+1) (D++[x]):=by
 have hc:=cy 32 s;rcases h with ⟨rfl,i,h1,rfl⟩|⟨A,l,rfl,h1,rfl⟩
 ·refine hz.doA _ ?_;have h2:=ed (vD h1);have h3:aE i.1<=2000:=by unfold aE;split<;>omega
  show i.2.1.toArray.size<=300000;rw[CV];omega
 ·refine hz.lkA _ ?_;have e:l.e=⟨(af 32 s).1.toArray⟩:=by
   cases A
   {rw[show l=_ from h1]};{obtain⟨n,h1,rfl⟩:=h1;rfl}
  rw[e];show(af 32 s).1.toArray.size<=300000;rw[CV];omega
theorem vE (b f k:Nat)(a:Option Addr)(c:Nat)(R:List DR)(o:ByteArray)(w:M)(hS:RSt w b f (Z a R.length c) R)(hZ:SzD k (R.map (·.1)))(hk:k<=310000)(hl:o.size<=300000)(hL:Lay w)(hE:EV w 3):Calls Pg 193 #[.pointer (T (Q b 0 U)),Y o] w λe F=>CH w b f k R o.data.toList e F:=by
 have H:=ae (λV=>fv o 32 V (by unfold maxLen;omega));have u:=ae (λG (h:Good (R.map (·.1)) o.data.toList G)=>fM h);have S0:=ae hS;have L0:=ae hL;have HK:=ae hk;have E0:=ae hE;have ZM:=ae hZ;have bt:R.length<=k:=by have:=hZ.1;simpa using this
 have C:=cy 32 o.data.toList;rw[aO] at C;unfold CH;generalize o.data.toList=S at H u C ⊢;generalize af 32 S=P at H u C;obtain⟨wd,rs,sp⟩:=P;dsimp only at H u C;clear hS hL hE hZ;have hcl2:=cy 32 rs;go_enter func193,ntmps193;go_wp2_with fail;refine(H _).mono ?_;rintro e w1 ⟨rfl,m,rfl⟩;have ZP:=ae (BM (q9 w) m);generalize w.drewN m=V at ZP ⊢;have D:=ae (S0.aa ZP);have O:=ae (L0.aa ZP ly);have E1:=ae (E0.aa ZP E0.1);have ZQ:Hid (KR b f w V):=KR.u ZP ly;clear H;by_cases h1:wd=[97,99,99,111,117,110,116]∨wd=[101,110,100]
 ·rcases h1 with rfl|rfl;all_goals
   go_wp2;go_ret;exact⟨ZQ,.inl ⟨a,c,R,rfl,D,ZM.up (F6 _),λG h=>(rE (u G h) (by simp)).symm⟩⟩
 by_cases h2:∃K:Int,K=1/\wd=[115,111,117,114,99,101]∨K=2/\wd=[110,111,110,101]∨K=3/\wd=[116,97,114,103,101,116]
 ·obtain⟨K,h2⟩:=h2;have E:=ae (λG h=>Ij (u G h) h2);have DD:=ae (Cy K (by rcases h2 with ⟨h,_⟩|⟨h,_⟩|⟨h,_⟩<;>simp[h]) b f a c R ⟨rs.toArray⟩ V D (by omega) (by show rs.length<=400000;omega) O);clear h1;rcases h2 with ⟨rfl,rfl⟩|⟨rfl,rfl⟩|⟨rfl,rfl⟩
  all_goals
   go_wp2_with fail;refine DD.mono ?_;rintro e w2 ⟨j,X⟩;have z:=ae (ZQ.trans j);rcases X with ⟨n,t,a',c',R',L,rfl,ZL,hm⟩|⟨s,ty,p,rfl⟩
   ·have OK:=ae L
    have ZI:=ae ZL;have HM:=ae hm;have ht:t.length<=rs.length:=Ik L;clear L ZL hm j;go_wp2;go_ret;refine⟨z,.inl ⟨a',c',R',rfl,ZI,?_,λG h=>?_⟩⟩
    ·rw[HM.out]
     exact ZM.new _ _ _ _ (by show(af 32 rs).1.toArray.size<=300000;rw[CV];omega) (by show t.toArray.size<=300000;rw[CV];omega)
    ·rw[HM.out]
     obtain⟨n',t',h1,h2⟩:=E G h;obtain⟨h3,h4⟩:=Ii OK h1;rw[h2,h3,h4]
   ·have ZK:=ae s
    clear j s;go_wp2;go_ret;refine⟨z,.inr ⟨λG h=>?_,ty,p,rfl⟩⟩;obtain⟨n',t',h1,_⟩:=E G h;exact ZK _ _ h1
 by_cases h3:wd=[100,111]∨wd=[97,115,107]∨wd=[104,97,115]
 ·have E:=ae (λG h=>Il (u G h) h3);clear h1 h2;rcases iX R with rfl|⟨q,r,rfl⟩
  ·rcases h3 with rfl|rfl|rfl;all_goals
    go_wp2_with fail;refine(xw b f a c _ ⟨rs.toArray⟩ V D E1).mono ?_;rintro e w2 ⟨j,ty,p,rfl⟩;have z:=ae (ZQ.trans j);clear j;go_wp2;go_ret;refine⟨z,.inr ⟨λG h=>?_,ty,p,rfl⟩⟩;obtain⟨D0,d,ZO,h1,_⟩:=E G h;simp at h1
  ·have ZN:(q++[r]).length=q.length+1:=by simp
   obtain⟨g,c2,aq⟩:=cC D.row.i (by rw[ZN];omega);cases aq
   have S2:Hid (RSt V b f (Z (T (Q g 0 U)) (q.length+1) c) (q++[r])):=by have:=D.out;rw[ZN] at this;exact this
   have W:=ZM.2 r.1 (by simp);have hra:=W.a;have hrl:=W.l;rw[ZN] at bt;have WI:Hid (Calls Pg 246 #[.pointer (T (Q b 0 U)),Y ⟨wd.toArray⟩,Y ⟨rs.toArray⟩] V λe F=>KR b f V F/\((∃d x y,WiR wd rs r.1 d/\e=ZF .nilIface/\RSt F b f (Z (T (Q g 0 U)) (q.length+1) c) (q++[(d,x,y)]))∨((∀d ZO,¬ WiR wd rs d ZO)/\∃ty p,e=ZF (.iface ty p)))):=by
    rcases h3 with rfl|h
    ·refine(Cz b f g c q r ⟨rs.toArray⟩ V S2 (by omega) (by show rs.length<=400000;omega) (by omega) O).mono ?_;rintro e F ⟨j,⟨i,v,h1,h2,h3⟩|⟨h1,h2⟩⟩;{exact⟨j,.inl ⟨_,_,_,.inl ⟨rfl,i,h1,rfl⟩,h2,h3⟩⟩}
     ·refine⟨j,.inr ⟨λd ZO hw=>?_,h2⟩⟩;rcases hw with ⟨_,i,e,_⟩|⟨B,l,e,_⟩
      {rw[show bE rs=U from h1] at e;cases e};{cases B<;>simp at e}
    ·obtain⟨A,h⟩:∃A,wd=(if A=ZG then iK else iL):=h.elim (λh=>⟨ZG,h⟩) (λh=>⟨ZA,h⟩);rw[show(⟨wd.toArray⟩:ByteArray)=if A=ZG then ⟨#[97,115,107]⟩ else ⟨#[104,97,115]⟩ by rw[h];cases A<;>rfl];refine(CB A b f g c q r ⟨rs.toArray⟩ V S2 (by omega) (by show rs.length<=400000;omega) (by omega) O).mono ?_;rintro e F ⟨j,⟨l,v,h1,h2,h3⟩|⟨h1,h2⟩⟩;{exact⟨j,.inl ⟨_,_,_,.inr ⟨A,l,h,h1,rfl⟩,h2,h3⟩⟩}
     ·refine⟨j,.inr ⟨λd ZO hw=>?_,h2⟩⟩;rcases hw with ⟨e,_⟩|⟨B,l,e,h3,_⟩
      {rw[h] at e;cases A<;>simp at e};{rw[h] at e;cases A<;>cases B<;>first|(simp at e;done)|exact h1 l h3}
   clear W D;rcases h3 with rfl|rfl|rfl;all_goals
    go_wp2_with fail;refine WI.mono ?_;rintro e w2 ⟨j,X⟩;have z:=ae (ZQ.trans j);rcases X with ⟨d,x,y,hi,rfl,ZJ⟩|⟨s,ty,p,rfl⟩
    ·have HI:=ae hi
     have ZI:=ae ZJ;clear hi ZJ j;go_wp2;go_ret;refine⟨z,.inl ⟨_,_,_,rfl,ZI.len (by simp),?_,λG h=>?_⟩⟩
     ·have hz:=ZM.out
      rw[DN,PM,PQ] at hz ⊢;exact J9 HI hz (by omega)
     ·obtain⟨D0,d0,d2,h1,h2,h3⟩:=E G h
      rw[DN,PM,PQ] at h1 ⊢;obtain⟨rfl,h4⟩:=SY h1 rfl;cases h4
      rw[h3,Jv h2 HI]
    ·have ZK:=ae s
     clear j s;go_wp2;go_ret;refine⟨z,.inr ⟨λG h=>?_,ty,p,rfl⟩⟩;obtain⟨_,_,_,_,h2,_⟩:=E G h;exact ZK _ _ h2
 have n:∀v,v=rD∨v=vA∨v=kZ∨v=lc∨v=j4∨v=wDo∨v=iK∨v=iL->(wd == v)=ZA:=λv hv=>by
  rw[beq_eq_false_iff_ne];rintro rfl;rcases hv with e|e|e|e|e|e|e|e;{exact h1 (.inl e)};{exact h1 (.inr e)};{exact h2 ⟨1,.inl ⟨rfl,e⟩⟩};{exact h2 ⟨2,.inr (.inl ⟨rfl,e⟩)⟩};{exact h2 ⟨3,.inr (.inr ⟨rfl,e⟩)⟩};{exact h3 (.inl e)};{exact h3 (.inr (.inl e))};{exact h3 (.inr (.inr e))}
 have HW:=ae n;have m1:=n [97,99,99,111,117,110,116] (by simp);have m2:=n [101,110,100] (by simp);have m3:=n [115,111,117,114,99,101] (by simp);have m4:=n [110,111,110,101] (by simp);have m5:=n [116,97,114,103,101,116] (by simp);have m6:=n [100,111] (by simp);have m7:=n [97,115,107] (by simp);have m8:=n [104,97,115] (by simp);clear n h1 h2 h3;obtain⟨hz,ty,p,he⟩:=O.wd;go_wp2;go_ret;exact⟨ZQ,.inr ⟨λG h=>by have:=HW _ (yy (u G h));simp at this,ty,p,rfl⟩⟩
theorem sQ{c:UInt8}(h:(af c s).2.2=ZA):af c s=(s,[],ZA):=by
 have h1:=fo c s;rw[gM (by rw[h];simp)] at h1;have h2:c ∉ s:=by rw[h1.2];exact h1.1
 exact gE h2
theorem gO (n:Nat)(s:List UInt8)(x y:List UInt8)(b:Bool)(h:af 32 s=(x,y,b))(hn:0<n):(b=ZG/\aP n s=x::aP (n - 1) y)∨(b=ZA/\aP n s=[x]/\y=[]):=by
 obtain⟨m,rfl⟩:∃m,n=m+1:=⟨n - 1,by omega⟩
 cases b with
 |true =>refine .inl ⟨rfl,?_⟩;rw[aP,h,p6 rfl];rfl
 |false =>
  have f:=sQ (c:=32) (s:=s) (by rw[h]);rw[h] at f;cases f
  refine .inr ⟨rfl,?_,rfl⟩;rw[aP,h,gM (by simp)]
theorem sR (n:Nat)(hn:0<n)(s:List UInt8):∃b,aP n s=(af 32 s).1::b:=by
 rcases gO n s _ _ _ rfl hn with ⟨_,h⟩|⟨_,h,_⟩
 {exact⟨_,h⟩};{exact⟨_,h⟩}
theorem sS (n:Nat)(hn:2<=n)(s:List UInt8)(X:List (List UInt8)):∃b,aP n s++[]::X=(af 32 s).1::(af 32 (af 32 s).2.1).1::b:=by
 rcases gO n s _ _ _ rfl (by omega) with ⟨_,h⟩|⟨_,h,h2⟩
 {obtain⟨b,h3⟩:=sR (n - 1) (by omega) (af 32 s).2.1;exact⟨b++[]::X,by rw[h,h3];rfl⟩};{rw[h,h2];exact⟨X,rfl⟩}
theorem sT (s:List UInt8):∃b,aP 2 s++[[],[]]=(af 32 s).1::(af 32 (af 32 s).2.1).1::(af 32 (af 32 s).2.1).2.1::b:=by
 rcases gO 2 s _ _ _ rfl (by omega) with ⟨_,h⟩|⟨_,h,h2⟩
 ·rcases gO 1 (af 32 s).2.1 _ _ _ rfl (by omega) with ⟨_,h3⟩|⟨_,h3,h4⟩
  {exact⟨[[],[]],by rw[h,show aP (2 - 1) (af 32 s).2.1=_ from h3];rfl⟩};{exact⟨[[]],by rw[h,show aP (2 - 1) (af 32 s).2.1=_ from h3,h4];rfl⟩}
 {rw[h,h2];exact⟨[],rfl⟩}
theorem oG (s:List UInt8)(X:List (List UInt8)):∃b,aP 3 s++[]::[]::X=(af 32 s).1::(af 32 (af 32 s).2.1).1::(af 32 (af 32 (af 32 s).2.1).2.1).1::b:=by
 rcases gO 3 s _ _ _ rfl (by omega) with ⟨_,h⟩|⟨_,h,h2⟩
 {obtain⟨b,h3⟩:=sS 2 (by omega) (af 32 s).2.1 ([]::X);exact⟨b,by rw[h,IN,show aP (3 - 1) (af 32 s).2.1=aP 2 (af 32 s).2.1 from rfl,h3]⟩};{rw[h,h2];exact⟨X,rfl⟩}
theorem CJ (s:List UInt8):∃b,aP 3 s++[[],[],[]]=(af 32 s).1::(af 32 (af 32 s).2.1).1::(af 32 (af 32 (af 32 s).2.1).2.1).1::(af 32 (af 32 (af 32 s).2.1).2.1).2.1::b:=by
 rcases gO 3 s _ _ _ rfl (by omega) with ⟨_,h⟩|⟨_,h,h2⟩
 {obtain⟨b,h3⟩:=sT (af 32 s).2.1;refine⟨b++[[]],?_⟩;rw[h,show aP (3 - 1) (af 32 s).2.1=aP 2 (af 32 s).2.1 from rfl,show([[],[],[]]:List (List UInt8))=[[],[]]++[[]] from rfl,IN,<-ON,h3];rfl};{rw[h,h2];exact⟨[],rfl⟩}
theorem oH (t:List UInt8):be (bS (aF t))=t:=by rw[mS,kf]
theorem yz (h:eO s n)(b:0<=n)(h1:n<=2000):bQ 0 (s.take 6)=n/\(32:UInt8) ∉ s:=by have e:=h.1;rw[<-vB b] at e;rw[e,Gu n.toNat (by omega)];exact⟨by omega,vC _⟩
theorem Im (h:GW D S W rest G)(e:W=j4):∃n t,OkD 3 rest n t/\0<=n/\n<=5/\G=D++[aV ⟨(af 32 rest).1.toArray⟩ 3 n ⟨t.toArray⟩]:=by rcases h with ⟨_,rfl,rfl,rfl⟩|⟨_,rfl,rfl,rfl⟩|⟨_,_,_,rfl,rfl,rfl⟩|⟨_,rfl,rfl,rfl⟩|⟨_,_,_,_,_,_,rfl,rfl,rfl⟩|⟨_,_,_,_,rfl,rfl,rfl⟩|⟨_,_,_,_,_,_,rfl,rfl,rfl⟩|⟨_,_,_,rfl,rfl,rfl⟩<;>first|exact absurd e (by decide)|exact⟨_,_,by assumption,by assumption,by assumption,rfl⟩
theorem Io (h:GW D S W rest G)(e:W=iK):∃b d n,D=b++[d]/\eO (af 32 rest).2.1 n/\0<=n/\n<=400/\G=b++[d.lkA ⟨⟨(af 32 rest).1.toArray⟩,ZG,ZA,n⟩]:=by rcases h with ⟨_,rfl,rfl,rfl⟩|⟨_,rfl,rfl,rfl⟩|⟨_,_,_,rfl,rfl,rfl⟩|⟨_,rfl,rfl,rfl⟩|⟨_,_,_,_,_,_,rfl,rfl,rfl⟩|⟨_,_,_,_,rfl,rfl,rfl⟩|⟨_,_,_,_,_,_,rfl,rfl,rfl⟩|⟨_,_,_,rfl,rfl,rfl⟩<;>first|exact absurd e (by decide)|exact⟨_,_,_,rfl,by assumption,by assumption,by assumption,rfl⟩
theorem Ip (h:GW D S W rest G)(e:W=iL):∃b d,D=b++[d]/\(32:UInt8) ∉ (af 32 rest).2.1/\G=b++[d.lkA ⟨⟨(af 32 rest).1.toArray⟩,ZA,(af 32 rest).2.1 == [49],0⟩]:=by rcases h with ⟨_,rfl,rfl,rfl⟩|⟨_,rfl,rfl,rfl⟩|⟨_,_,_,rfl,rfl,rfl⟩|⟨_,rfl,rfl,rfl⟩|⟨_,_,_,_,_,_,rfl,rfl,rfl⟩|⟨_,_,_,_,rfl,rfl,rfl⟩|⟨_,_,_,_,_,_,rfl,rfl,rfl⟩|⟨_,_,_,rfl,rfl,rfl⟩<;>first|exact absurd e (by decide)|exact⟨_,_,rfl,by assumption,rfl⟩
theorem Jw (h:Good D S G)(e:(af 32 S).1=kZ):G=D++[aV ⟨(af 32 (af 32 S).2.1).1.toArray⟩ 1 0 ⟨(be (bS (af 32 (af 32 S).2.1).2.1)).toArray⟩]:=by obtain⟨t,⟨_,h1⟩,h2⟩:=CF (fM h) e;rw[h2,h1,oH]
theorem Jy (h:Good D S G)(e:(af 32 S).1=lc):G=D++[aV ⟨(af 32 (af 32 S).2.1).1.toArray⟩ 2 0 ⟨#[]⟩]:=CG (fM h) e
theorem Jz (h:Good D S G)(e:(af 32 S).1=j4):G=D++[aV ⟨(af 32 (af 32 S).2.1).1.toArray⟩ 3 (bQ 0 ((af 32 (af 32 (af 32 S).2.1).2.1).1.take 6)) ⟨(be (bS (af 32 (af 32 (af 32 S).2.1).2.1).2.1)).toArray⟩]:=by obtain⟨n,t,b,c,h5,h2⟩:=Im (fM h) e;unfold OkD at b;rw[p6 rfl] at b;rw[h2,b.2,oH,(yz b.1 c (by omega)).1]
def Gx (o:Option I3):Ins:=match o with
 |some i=>⟨i.1,⟨i.2.1.toArray⟩,i.2.2⟩
 |none=>tW
theorem Gy (h:Good D S G)(e:(af 32 S).1=wDo):∃b d,D=b++[d]/\3<S.length/\G=b++[d.doA (Gx (bE (S.drop 3)))]:=by
 obtain⟨b,d,i,h1,h2,h3⟩:=Gw (fM h) e;have c:(af 32 S).2.1≠[]:=λl=>by have g:=oR h2;have:=GT g.1;rw[<-g.2,l] at this;exact this rfl
 have f:=(fo 32 S).2;have j:(af 32 S).2.2=ZG:=by
  cases hb:(af 32 S).2.2 with
  |true=>rfl
  |false =>have:=sQ hb;exact absurd (wA (λz=>z.2.1) this) c
 rw[p6 j,e] at f;have n:S.drop 3=(af 32 S).2.1:=by have h4:=wA (List.drop 3) f;exact h4
 refine⟨b,d,h1,?_,?_⟩;{have m:=wA List.length f;have h6:=GC.2 c;simp only[cM,eL,nX] at m;omega};{rw[n,h2];exact h3}
theorem CL (h:Good D S G)(e:(af 32 S).1=iK):∃b d,D=b++[d]/\G=b++[d.lkA ⟨⟨(af 32 (af 32 S).2.1).1.toArray⟩,ZG,ZA,bQ 0 ((af 32 (af 32 (af 32 S).2.1).2.1).1.take 6)⟩]:=by obtain⟨b,d,n,h1,hn,f,h4,h2⟩:=Io (fM h) e;obtain⟨g,c⟩:=yz hn f (by omega);refine⟨b,d,h1,?_⟩;rw[h2,gE c,g]
theorem CN (h:Good D S G)(e:(af 32 S).1=iL):∃b d,D=b++[d]/\G=b++[d.lkA ⟨⟨(af 32 (af 32 S).2.1).1.toArray⟩,ZA,(af 32 (af 32 (af 32 S).2.1).2.1).1 == [49],0⟩]:=by obtain⟨b,d,h1,c,h2⟩:=Ip (fM h) e;refine⟨b,d,h1,?_⟩;rw[h2,gE c]
theorem Fx (h:Good D S G)(j:¬ (af 32 S).1=kZ)(i:¬ (af 32 S).1=lc)(c:¬ (af 32 S).1=j4)(g:¬ (af 32 S).1=wDo)(f:¬ (af 32 S).1=iK)(l:¬ (af 32 S).1=iL):G=D:=by
 have b:=fM h;rcases yy b with h1|h1|h1|h1|h1|h1|h1|h1;{exact rE b (.inl h1)};{exact rE b (.inr h1)};{exact absurd h1 j};{exact absurd h1 i};{exact absurd h1 c};{exact absurd h1 g};{exact absurd h1 f};{exact absurd h1 l}
theorem Iq{f E:List Deed}{l:List UInt8}{b:List (List UInt8)}(h1:l=[]->f=D)(h2:∀G,Good D l G->f=G)(h:bB D (tL (l::b)) E):bB f (tL b) E:=by
 cases b with
 |nil =>
  by_cases c:l=[]
  {rw[h1 c];subst c;exact h};{rw[Hc c] at h;obtain⟨G,h3,h4⟩:=h;rw[h2 G h3];exact h4}
 |cons l' b =>obtain⟨G,h3,h4⟩:=h;rw[h2 G h3];exact h4
