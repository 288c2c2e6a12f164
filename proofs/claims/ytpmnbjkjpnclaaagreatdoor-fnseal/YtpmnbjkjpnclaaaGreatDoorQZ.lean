import Derived.Test.YtpmnbjkjpnclaaaGreatDoorQG
import Derived.Test.YtpmnbjkjpnclaaaGreatDoorQK
import Derived.Test.YtpmnbjkjpnclaaaGreatDoorRM
set_option maxRecDepth 100000
set_option maxHeartbeats 8000000
set_option linter.unusedSimpArgs false
open Go renaming Addr.mk->Q,Value.slice->Z,Value.string->U,Value.int->N,Value.bool->ZD,Value.agg->ZH,Obj.cells->J,IntKind.i64->I,World->M,Value->ZC,Ending.returned->ZF,Proofs.Tryz.prog->Pg
open Option renaming none->Y,some->T
open Bool renaming false->ZA,true->ZG
namespace Go.Proofs.YtpmnbjkjpnclaaaGreatDoor.Vp
open Tryz RowKit Ca
variable {D G:List Deed}{S W rest s t:List UInt8}{w c:M}{g B:Nat}{b:Array ZC}{n m:Int}{u:ZC}{x:Deed}
def OkD (kind:Int)(rest:List UInt8)(n:Int)(t:List UInt8):Prop :=
 if kind=3 then eP (af 32 (af 32 rest).2.1).1 n/\(af 32 (af 32 rest).2.1).2.1=aF t
 else if kind=1 then n=0/\(af 32 rest).2.1=aF t else n=0/\t=[]
def CG (w:M)(b f:Nat)(R:List DR)(kind:Int)(rest:List UInt8)(e:Ending)(h:M):Prop :=
 KR b f w h/\((∃n t a c g,OkD kind rest n t/\e=ZF .nilIface/\RSt h b f (Z a g.length c) g/\g.map (·.1)=R.map (·.1)++[aV ⟨(af 32 rest).1.toArray⟩ kind n ⟨t.toArray⟩])∨((∀n t,¬ OkD kind rest n t)/\∃ty p,e=ZF (.iface ty p)))
theorem RSt.len{b f:Nat}{a:Option Addr}{c n:Nat}{R:List DR}(h:RSt w b f (Z a n c) R)(hn:R.length=n):RSt w b f (Z a R.length c) R:=by rw[hn];exact h
theorem Al (t:List UInt8):t.length<=(aF t).length:=by
 have b:∀l:List UInt8,l.length<=(l.flatMap enc).length:=λl=>by
  induction l with
  |nil=>exact n6 _
  |cons c l ih =>have:=jG c;simp only[KK,cM,eL];omega
 rw[dy];have:=b t;simp only[cM,eL];omega
def DBk (w:M)(g:Nat)(b:Array ZC):Prop:=w.heap[g]?=T (J b 46 (0,0))
theorem DBk.lt (h:DBk w g b):g<w.heap.size:=(eT.1 h).1
theorem DBk.at (h:DBk w g b)(j:Nat)(c:b[j]?=T u):w.cell? (Q g j Y)=T u:=by rw[HU h];exact c
theorem DBk.fz (h:DBk w g b)(j:Nat):w.frozen? (Q g j Y)=ZA:=PC h j
theorem DBk.aa (h:DBk w g b)(hb:Below B w c)(f:g<B):DBk c g b:=(hb.block g f).trans h
theorem DBk.set (h:DBk w g b)(j:Nat)(v:ZC):DBk (w.setCell (Q g j Y) v) g (b.setIfInBounds j v):=by unfold DBk at *;simp[World.setCell,CP,h]
theorem CH (K:Int)(ZM:(K=1∨K=3)∨K=2)(b u:Nat)(a:Option Addr)(c:Nat)(R:List DR)(rest:ByteArray)(w:M)(hS:RSt w b u (Z a R.length c) R)(hn:(R.length:Int)<=400000)(hr:rest.size<=400000)(hL:Lay w):Calls Pg 245 #[.pointer (T (Q b 0 Y)),N I K,U rest] w λe w'=>CG w b u R K rest.data.toList e w':=by
 have C:=ae (λV=>fx rest 32 V (by unfold maxLen;omega));have S0:=ae hS;have L:=ae (λV (hV:Below w.heap.size w V)=>hL.aa hV ly);have i:Hid ((∀n t,OkD 1 rest.data.toList n t ↔ n=0/\(af 32 rest.data.toList).2.1=aF t)/\OkD 2 rest.data.toList 0 []/\∀n t,OkD 3 rest.data.toList n t ↔ eP (af 32 (af 32 rest.data.toList).2.1).1 n/\(af 32 (af 32 rest.data.toList).2.1).2.1=aF t):=⟨λ_ _=>Iff.rfl,⟨rfl,rfl⟩,λ_ _=>Iff.rfl⟩
 have B:=cy 32 rest.data.toList;rw[aO] at B;unfold CG;generalize rest.data.toList=S at C i B ⊢;generalize af 32 S=P at C i B ⊢;obtain⟨nm,rs,sp⟩:=P;dsimp only at C i B ⊢;have z:=ae (λV=>fx ⟨rs.toArray⟩ 32 V (by show rs.length<=_;unfold maxLen;omega));have ZQ:=cy 32 rs;dsimp only at z;generalize af 32 rs=P2 at z i ZQ;obtain⟨cd,ZR,sp2⟩:=P2;dsimp only at z i ZQ;clear hS hL;obtain⟨i1,hi,aq,bt,fd⟩:=OB fm;go_enter func245,ntmps245;go_wp2_with fail;refine(C _).mono ?_;rintro e w1 ⟨rfl,m,rfl⟩;have G:=BM (q9 w) m;generalize w.drewN m=o at G ⊢;have f:=ae (G.alloc G.size (J #[U ⟨nm.toArray⟩,N I K,N I 0,U ⟨#[]⟩,Z Y 0 0,Z Y 0 0] 46));have D:Hid (DBk (o.alloc (J #[U ⟨nm.toArray⟩,N I K,N I 0,U ⟨#[]⟩,Z Y 0 0,Z Y 0 0] 46)) o.heap.size #[U ⟨nm.toArray⟩,N I K,N I 0,U ⟨#[]⟩,Z Y 0 0,Z Y 0 0]):=nL o _;have l:w.heap.size<=o.heap.size:=G.size;clear G C;rcases ZM with ZM|rfl;focus
  rcases ZM with rfl|rfl;rotate_left
  focus
   go_upto_region 8 with fail;generalize o.alloc (J #[U ⟨nm.toArray⟩,N I 3,N I 0,U ⟨#[]⟩,Z Y 0 0,Z Y 0 0] 46)=ZK at f D ⊢;generalize o.heap.size=y at D l ⊢;go_wp2_with fail;refine(z _).mono ?_;rintro e w1 ⟨rfl,m2,rfl⟩;have ZL:=BM (q9 ZK) m2;replace D:=ae (D.aa ZL D.lt);replace f:=ae (f.trans (ZL.mono f.size));clear ZL z;generalize ZK.drewN m2=ZP at f D ⊢;have X:=ae (iI ⟨cd.toArray⟩ ZP (by show cd.length<=_;omega) (L ZP f).sy (L ZP f).ra (L ZP f).n (L ZP f).pw);dsimp only[vi] at X;go_wp2_with fail;refine X.mono ?_;rintro e w3 ⟨ZO,E⟩;replace D:=ae (D.aa E D.lt);replace f:=ae (f.trans (E.mono f.size));clear E X;have c2:=D.at 2 rfl;have f2:=D.fz 2;have O:=D.lt;rcases ZO with ⟨n,ZO,rfl⟩|⟨H,ty,p,rfl⟩
   rotate_left
   ·replace f:=ae (f.setCell (p:=(Q y 2 Y)) l (N I 0))
    go_wp2;go_ret;exact⟨KR.u f ly,.inr ⟨λn t h=>H n ((i.2.2 n t).1 h).1,ty,p,rfl⟩⟩
   replace D:=ae (D.set 2 (N I n));replace f:=ae (f.setCell (p:=(Q y 2 Y)) l (N I n));have ZN:Hid ((∀t,ZR=aF t->OkD 3 S n t)/\∀n t,OkD 3 S n t->ZR=aF t):=⟨λt h=>(i.2.2 n t).2 ⟨ZO,h⟩,λn t h=>((i.2.2 n t).1 h).2⟩
   clear ZO;go_upto_region 12 with fail;generalize w3.setCell (Q y 2 Y) (N I n)=ZJ at D f ⊢;clear c2 f2 O;obtain⟨x,rfl⟩:∃x,x=ZR:=⟨_,rfl⟩
  rotate_left
  focus
   go_upto_region 12 with fail;generalize o.alloc (J #[U ⟨nm.toArray⟩,N I 1,N I 0,U ⟨#[]⟩,Z Y 0 0,Z Y 0 0] 46)=ZJ at f D ⊢;generalize o.heap.size=y at D l ⊢;obtain⟨n,W⟩:∃n:Int,n=0:=⟨_,rfl⟩
   have ZN:Hid ((∀t,rs=aF t->OkD 1 S n t)/\∀n t,OkD 1 S n t->rs=aF t):=⟨λt h=>(i.1 n t).2 ⟨W,h⟩,λn t h=>((i.1 n t).1 h).2⟩
   rw[<-W] at D;clear W;obtain⟨x,rfl⟩:∃x,x=rs:=⟨_,rfl⟩
  all_goals
   have U1:=ae (oD ⟨x.toArray⟩ ZJ (by show x.length<=_;omega) (L ZJ f).q);dsimp only[t8] at U1;go_wp2_with fail;refine U1.mono ?_;rintro e w2 ⟨hU,F⟩;replace D:=ae (D.aa F D.lt);replace f:=ae (f.trans (F.mono f.size));clear F U1;have c3:=D.at 3 rfl;have f3:=D.fz 3;have O:=D.lt;rcases hU with ⟨t,ht,rfl⟩|⟨H,ty,p,rfl⟩
   rotate_left
   ·replace f:=ae (f.setCell (p:=(Q y 3 Y)) l (U ⟨#[]⟩))
    go_wp2;go_ret;exact⟨KR.u f ly,.inr ⟨λn t h=>H t (ZN.2 n t h),ty,p,rfl⟩⟩
   replace D:=ae (D.set 3 (U ⟨t.toArray⟩));replace f:=ae (f.setCell (p:=(Q y 3 Y)) l (U ⟨t.toArray⟩));have HO:=ae (ZN.1 t ht);clear ht;go_upto_region 15 with fail;generalize w2.setCell (Q y 3 Y) (U ⟨t.toArray⟩)=s at D f ⊢;clear c3 f3 O
 rotate_left 2;focus
  go_upto_region 15 with fail;generalize o.alloc (J #[U ⟨nm.toArray⟩,N I 2,N I 0,U ⟨#[]⟩,Z Y 0 0,Z Y 0 0] 46)=s at f D ⊢;generalize o.heap.size=y at D l ⊢;obtain⟨n,t,ho,hd⟩:∃n t,OkD 2 S n t/\DBk s y #[U ⟨nm.toArray⟩,N I 2,N I n,U ⟨t.toArray⟩,Z Y 0 0,Z Y 0 0]:=⟨0,[],i.2.1,D⟩
  have HO:=ae ho;replace D:=ae hd;clear ho hd
 all_goals
  have r:=ae (S0.aa f);have K1:Hid (KR b u w s):=KR.u f ly;have c0:=D.at 0 rfl;have c1:=D.at 1 rfl;have c2:=D.at 2 rfl;have c3:=D.at 3 rfl;have c4:=D.at 4 rfl;have c5:=D.at 5 rfl;have O:=D.lt;have r0:=r.ab.c0;have r1:=r.ab.fz;have ZR:=r.ab.lt;have hle:=r.le
  go_region_law (first
   |(refine aG rfl (.tmp 55) (.tmp 57) 35 rfl u 46 i1 (ZH #[U ⟨#[]⟩,N I 0,N I 0,U ⟨#[]⟩,Z Y 0 0,Z Y 0 0]) 6 96 PF hi aq bt fd rfl (by decide) (Z a R.length c) R.length (R.flatMap ddV) (by simp[Act.eval]) (by first|exact r.row.i.alloc _|exact r.row.i.drew.alloc _|exact r.row.i.drew.drew.alloc _) (Q s.heap.size 0 Y) 1 1 [U ⟨nm.toArray⟩,N I _,N I n,U ⟨t.toArray⟩,Z Y 0 0,Z Y 0 0] (by simp[Act.eval]) rfl (by first|exact dP s _ _ _ _ _ _ _|exact dP s.drew _ _ _ _ _ _ _|exact dP s.drew.drew _ _ _ _ _ _ _) (by simp[Value.oneCell']) (by unfold maxLen;omega) (by omega) (by simp;omega) ?_;intro v6 w6 j g dg;(first|have A:=ae (r.ao (dB _ s) j g)|have A:=ae (r.ao (dB _ s).drew j g)|have A:=ae (r.ao (dB _ s).drew.drew j g));obtain⟨a6,c6,rfl⟩:=cJ j;have k0:=A.2.2.c0;have k1:=A.2.2.fz;have k2:=A.2.2.lt;clear j g dg))
  all_goals
   go_simp;go_wp2;go_ret;exact⟨K1.trans A.2.1,.inl ⟨n,t,a6,c6,R++[(aV ⟨nm.toArray⟩ _ n ⟨t.toArray⟩,Z Y 0 0,Z Y 0 0)],HO,rfl,A.1.len (by simp),by simp⟩⟩
abbrev rG:List UInt8:=[97,99,99,111,117,110,116]
abbrev vD:List UInt8:=[101,110,100]
abbrev lc:List UInt8:=[115,111,117,114,99,101]
abbrev li:List UInt8:=[110,111,110,101]
abbrev j5:List UInt8:=[116,97,114,103,101,116]
abbrev wDo:List UInt8:=[100,111]
abbrev iM:List UInt8:=[97,115,107]
abbrev iN:List UInt8:=[104,97,115]
theorem vE (h:0<=n):Lib.decDigits n.toNat=Lib.itoa n:=by rw[<-Lib.itoa_nonneg];congr 1;omega
theorem sR (b:0<=n)(h1:n<=400):eP (Lib.decDigits n.toNat) n:=⟨vE b,by omega,by omega⟩
theorem sS (h:eP s n)(k:eP s m):n=m:=by have h1:=iE h;have h2:=iE k;rw[h1] at h2;exact Lib.NumEnd.ok.inj h2
theorem qF{u:List UInt8}(h:aF t=aF u):t=u:=by rw[dy,dy] at h;simp only[IN,List.cons.injEq,TM] at h;exact gU (List.append_cancel_right h)
theorem Is{k:Int}{u:List UInt8}(h:OkD k s n t)(b:OkD k s m u):n=m/\t=u:=by
 unfold OkD at h b;split at h;{rename_i f;rw[p6 f] at b;exact⟨sS h.1 b.1,qF (h.2.symm.trans b.2)⟩};{rename_i f;rw[gM f] at b;split at h;{rename_i c;rw[p6 c] at b;exact⟨h.1.trans b.1.symm,qF (h.2.symm.trans b.2)⟩};{rename_i c;rw[gM c] at b;exact⟨h.1.trans b.1.symm,h.2.trans b.2.symm⟩}}
theorem vF:∀n:Nat,(32:UInt8) ∉ Lib.decDigits n:=by
 intro n;induction n using Nat.strongRecOn with
 |ind n b =>
  rw[Lib.decDigits];split;{rename_i h;intro h2;have h3:=nD.1 h2;have h4:=wA UInt8.toNat h3;rw[OD] at h4;have c:(32:UInt8).toNat=32:=rfl;omega};{rename_i h;intro h2;rcases p8.1 h2 with h2|h2;{exact b (n / 10) (by omega) h2};{have h3:=nD.1 h2;have h4:=wA UInt8.toNat h3;rw[OD] at h4;have c:(32:UInt8).toNat=32:=rfl;omega}}
def GW (X:List Deed)(_S:List UInt8)(W:List UInt8)(rest:List UInt8)(ZJ:List Deed):Prop :=
 (∃(D:List Deed),X=D/\W=rG/\ZJ=D) ∨
 (∃(D:List Deed),X=D/\W=vD/\ZJ=D) ∨
 (∃(D:List Deed) (t:List UInt8),OkD 1 rest 0 t/\X=D/\W=lc/\ZJ=(D++[aV ⟨(af 32 rest).1.toArray⟩ 1 0 ⟨t.toArray⟩])) ∨
 (∃(D:List Deed),X=D/\W=li/\ZJ=(D++[aV ⟨(af 32 rest).1.toArray⟩ 2 0 ⟨#[]⟩])) ∨
 (∃(D:List Deed) (t:List UInt8) (n:Int),OkD 3 rest n t/\0<=n/\n<=5/\X=D/\W=j5/\ZJ=(D++[aV ⟨(af 32 rest).1.toArray⟩ 3 n ⟨t.toArray⟩])) ∨
 (∃(D:List Deed) (d:Deed) (i:I3),bF rest=T i/\X=(D++[d])/\W=wDo/\ZJ=(D++[d.doA ⟨i.1,⟨i.2.1.toArray⟩,i.2.2⟩])) ∨
 (∃(D:List Deed) (d:Deed) (n:Int),eP (af 32 rest).2.1 n/\0<=n/\n<=400/\X=(D++[d])/\W=iM/\ZJ=(D++[d.lkA ⟨⟨(af 32 rest).1.toArray⟩,ZG,ZA,n⟩])) ∨
 (∃(D:List Deed) (d:Deed),(32:UInt8) ∉ (af 32 rest).2.1/\X=(D++[d])/\W=iN/\ZJ=(D++[d.lkA ⟨⟨(af 32 rest).1.toArray⟩,ZA,(af 32 rest).2.1 == [49],0⟩]))
theorem GW.acc (D:List Deed)(S rest:List UInt8):GW D S rG rest D:=.inl ⟨D,rfl,rfl,rfl⟩
theorem GW.fin (D:List Deed)(S rest:List UInt8):GW D S vD rest D:=.inr (.inl ⟨D,rfl,rfl,rfl⟩)
theorem GW.src (D:List Deed)(S rest t:List UInt8)(b:OkD 1 rest 0 t):GW D S lc rest (D++[aV ⟨(af 32 rest).1.toArray⟩ 1 0 ⟨t.toArray⟩]):=.inr (.inr (.inl ⟨D,t,b,rfl,rfl,rfl⟩))
theorem GW.non (D:List Deed)(S rest:List UInt8):GW D S li rest (D++[aV ⟨(af 32 rest).1.toArray⟩ 2 0 ⟨#[]⟩]):=.inr (.inr (.inr (.inl ⟨D,rfl,rfl,rfl⟩)))
theorem GW.R (D:List Deed)(S rest t:List UInt8)(n:Int)(b:OkD 3 rest n t)(h1:0<=n)(h2:n<=5):GW D S j5 rest (D++[aV ⟨(af 32 rest).1.toArray⟩ 3 n ⟨t.toArray⟩]):=.inr (.inr (.inr (.inr (.inl ⟨D,t,n,b,h1,h2,rfl,rfl,rfl⟩))))
theorem GW.H (D:List Deed)(d:Deed)(S rest:List UInt8)(i:I3)(b:bF rest=T i):GW (D++[d]) S wDo rest (D++[d.doA ⟨i.1,⟨i.2.1.toArray⟩,i.2.2⟩]):=.inr (.inr (.inr (.inr (.inr (.inl ⟨D,d,i,b,rfl,rfl,rfl⟩)))))
theorem GW.ask (D:List Deed)(d:Deed)(S rest:List UInt8)(n:Int)(b:eP (af 32 rest).2.1 n)(h1:0<=n)(h2:n<=400):GW (D++[d]) S iM rest (D++[d.lkA ⟨⟨(af 32 rest).1.toArray⟩,ZG,ZA,n⟩]):=.inr (.inr (.inr (.inr (.inr (.inr (.inl ⟨D,d,n,b,h1,h2,rfl,rfl,rfl⟩))))))
theorem GW.has (D:List Deed)(d:Deed)(S rest:List UInt8)(b:(32:UInt8) ∉ (af 32 rest).2.1):GW (D++[d]) S iN rest (D++[d.lkA ⟨⟨(af 32 rest).1.toArray⟩,ZA,(af 32 rest).2.1 == [49],0⟩]):=.inr (.inr (.inr (.inr (.inr (.inr (.inr ⟨D,d,b,rfl,rfl,rfl⟩))))))
theorem ed{w y:List UInt8}(b:(32:UInt8) ∉ w):af 32 (w++32::y)=(w,y,ZG):=lu y b
theorem fN (h:Good D S G):GW D S (af 32 S).1 (af 32 S).2.1 G:=by
 rcases h with ⟨i,n,rfl,rfl,rfl⟩|⟨i,rfl,rfl,rfl⟩|⟨i,d,f,rfl,rfl,rfl⟩|⟨i,d,f,rfl,rfl,rfl⟩|⟨i,d,f,c,q,rfl,rfl,rfl⟩|⟨D,d,x,r,rfl,rfl,rfl⟩|⟨D,d,l,m,c,h4,y,hb,rfl,rfl,rfl⟩
 {rw[show[97,99,99,111,117,110,116,32]++Lib.decDigits n=rG++32::Lib.decDigits n from rfl,ed (by decide)];exact GW.acc _ _ _};{exact GW.fin _ _ _}
 ·have e:iG d=lc++32::(d.e.data.toList++32::aF d.B.data.toList):=by simp[iG]
  have b:af 32 (d.e.data.toList++32::aF d.B.data.toList)=(d.e.data.toList,aF d.B.data.toList,ZG):=ed f;rw[e,ed (by decide)];have g:=GW.src D (lc++32::(d.e.data.toList++32::aF d.B.data.toList)) (d.e.data.toList++32::aF d.B.data.toList) d.B.data.toList ⟨rfl,by rw[b]⟩;rw[b] at g;exact g
 ·have e:fU d=li++32::d.e.data.toList:=by simp[fU]
  rw[e,ed (by decide)];have g:=GW.non D (li++32::d.e.data.toList) d.e.data.toList;rw[gG f] at g;exact g
 ·have e:eF d=j5++32::(d.e.data.toList++32::(Lib.decDigits d.E.toNat++32::aF d.B.data.toList)):=by simp[eF]
  have b:af 32 (d.e.data.toList++32::(Lib.decDigits d.E.toNat++32::aF d.B.data.toList))=(d.e.data.toList,Lib.decDigits d.E.toNat++32::aF d.B.data.toList,ZG):=ed f;have p:af 32 (Lib.decDigits d.E.toNat++32::aF d.B.data.toList)=(Lib.decDigits d.E.toNat,aF d.B.data.toList,ZG):=ed (vF _);rw[e,ed (by decide)];have g:=GW.R D (j5++32::(d.e.data.toList++32::(Lib.decDigits d.E.toNat++32::aF d.B.data.toList))) (d.e.data.toList++32::(Lib.decDigits d.E.toNat++32::aF d.B.data.toList)) d.B.data.toList d.E (by unfold OkD;rw[p6 rfl,b,p];exact⟨sR c (by omega),rfl⟩) c q;rw[b] at g;exact g
 ·have e:doT x=wDo++32::aR x.op x.s.data.toList x.n:=by simp[doT]
  rw[e,ed (by decide)];have u:bF (aR x.op x.s.data.toList x.n)=T (x.op,x.s.data.toList,x.n):=lT ⟨by simpa using r,rfl⟩;have g:=GW.H D d (wDo++32::aR x.op x.s.data.toList x.n) _ _ u;exact g
 ·cases hk:l.ask with
  |true =>
   have e:dI l=iM++32::(l.e.data.toList++32::Lib.decDigits l.L.toNat):=by simp[dI,hk]
   have b:af 32 (l.e.data.toList++32::Lib.decDigits l.L.toNat)=(l.e.data.toList,Lib.decDigits l.L.toNat,ZG):=ed m;rw[e,ed (by decide)];have g:=GW.ask D d (iM++32::(l.e.data.toList++32::Lib.decDigits l.L.toNat)) (l.e.data.toList++32::Lib.decDigits l.L.toNat) l.L (by rw[b];exact sR c h4) c h4;rw[b] at g;have j:d.lkA l=d.lkA ⟨⟨l.e.data.toList.toArray⟩,ZG,ZA,l.L⟩:=by have h1:=y hk;clear e b g;obtain⟨nm,t,o,a0⟩:=l;simp only at hk h1;subst hk h1;rfl
   rw[j];exact g
  |false =>
   have e:dI l=iN++32::(l.e.data.toList++32::(if l.has=ZG then [49] else [48])):=by simp[dI,hk]
   have b:af 32 (l.e.data.toList++32::(if l.has=ZG then [49] else [48]))=(l.e.data.toList,(if l.has=ZG then [49] else [48]),ZG):=ed m;rw[e,ed (by decide)];have g:=GW.has D d (iN++32::(l.e.data.toList++32::(if l.has=ZG then [49] else [48]))) (l.e.data.toList++32::(if l.has=ZG then [49] else [48])) (by rw[b];show(32:UInt8) ∉ (if l.has=ZG then [49] else [48]);split<;>decide);rw[b] at g;have j:d.lkA l=d.lkA ⟨⟨l.e.data.toList.toArray⟩,ZA,(if l.has=ZG then ([49]:List UInt8) else [48]) == [49],0⟩:=by have h1:=hb hk;clear e b g;obtain⟨nm,t,o,a0⟩:=l;simp only at hk h1;subst hk h1;cases o<;>rfl
   rw[j];exact g
theorem fO (w:M)(x y z:ZC)(t:TypeId):∀j u,[x,y,z][j]?=T u->(w.alloc (J #[x,y,z] t)).cell? (((Q w.heap.size 0 Y):Addr).add j)=T u:=by intro j u b;rw[addr_add,FM];exact jk w _ t w.heap.size j u rfl (by simpa using b)
theorem ez (w:M)(x y z v:ZC)(t:TypeId):∀j u,[x,y,z,v][j]?=T u->(w.alloc (J #[x,y,z,v] t)).cell? (((Q w.heap.size 0 Y):Addr).add j)=T u:=by intro j u b;rw[addr_add,FM];exact jk w _ t w.heap.size j u rfl (by simpa using b)
def LBk (w:M)(g:Nat)(b:Array ZC):Prop:=w.heap[g]?=T (J b 91 (0,0))
theorem LBk.lt (h:LBk w g b):g<w.heap.size:=(eT.1 h).1
theorem LBk.at (h:LBk w g b)(j:Nat)(c:b[j]?=T u):w.cell? (Q g j Y)=T u:=by rw[HU h];exact c
theorem LBk.fz (h:LBk w g b)(j:Nat):w.frozen? (Q g j Y)=ZA:=PC h j
theorem LBk.aa (h:LBk w g b)(hb:Below B w c)(f:g<B):LBk c g b:=(hb.block g f).trans h
theorem LBk.set (h:LBk w g b)(j:Nat)(v:ZC):LBk (w.setCell (Q g j Y) v) g (b.setIfInBounds j v):=by unfold LBk at *;simp[World.setCell,CP,h]
theorem vG{i:I3}(h:bF s=T i):aH i.1 i.2.1.length i.2.2=ZG:=(oV h).1
theorem CJ (b h g c:Nat)(R:List DR)(r:DR)(rest:ByteArray)(w:M)(hS:RSt w b h (Z (T (Q g 0 Y)) (R.length+1) c) (R++[r]))(hn:(R.length:Int)<=400000)(hr:rest.size<=400000)(hk:(r.1.f:Int)<=400000)(hL:Lay w):Calls Pg 246 #[.pointer (T (Q b 0 Y)),U ⟨#[100,111]⟩,U rest] w λe w'=>KR b h w w'/\((∃i v',bF rest.data.toList=T i/\e=ZF .nilIface/\RSt w' b h (Z (T (Q g 0 Y)) (R.length+1) c) (R++[(r.1.doA ⟨i.1,⟨i.2.1.toArray⟩,i.2.2⟩,v',r.2.2)]))∨(bF rest.data.toList=Y/\∃ty p,e=ZF (.iface ty p))):=by
 have ZR:=ae (λV=>fx rest 32 V (by unfold maxLen;omega));have ZK:=ae hS;have E:=cy 32 rest.data.toList;rw[aO] at E;have L0:=ae (λV (hV:Below w.heap.size w V)=>hL.aa hV ly);have RI:=ae (λV (hV:Below w.heap.size w V)=>xp rest V (by omega) (L0 V hV));generalize bF rest.data.toList=rd at RI ⊢;generalize af 32 rest.data.toList=P at ZR E;obtain⟨nm,rs,sp⟩:=P;dsimp only at ZR E;clear hS hL;obtain⟨i1,hi,aq,bt,dg⟩:=OB lm;have r0:=ZK.ab.c0;have r2:=ZK.ab.lt;have q0:¬ ((R.length:Int)+1=0):=by omega
 have q1:(0:Int)<=(R.length:Int):=by omega
 have q2:(R.length:Int)<(R.length:Int)+1:=by omega
 have q3:(R.length:Int)+1 - 1=(R.length:Int):=by omega
 go_enter func246,ntmps246;go_upto_region 3 with fail;go_quiet (fail);have ZO:=BM (q9 w) nq;generalize w.drewN nq=X at ZO ⊢;go_wp2_with fail;refine(ZR _).mono ?_;rintro e w1 ⟨rfl,m,rfl⟩;have H:=ZO.trans ((BM (q9 X) m).mono ZO.size);generalize X.drewN m=ZQ at H ⊢;clear r0 r2 q0 q1 q2 q3 ZO ZR;have S:=ae H.size;have q:=ae (H.alloc H.size (J #[U ⟨nm.toArray⟩,ZD ZA,ZD ZA,N I 0] 91));have W:Hid (LBk (ZQ.alloc (J #[U ⟨nm.toArray⟩,ZD ZA,ZD ZA,N I 0] 91)) ZQ.heap.size #[U ⟨nm.toArray⟩,ZD ZA,ZD ZA,N I 0]):=nL ZQ _;clear H;go_upto_region 7 with fail;generalize ZQ.alloc (J #[U ⟨nm.toArray⟩,ZD ZA,ZD ZA,N I 0] 91)=K at q W ⊢;generalize ZQ.heap.size=lB at W S ⊢;have y:=ae (q.alloc q.size (J #[N I 0,U ⟨#[]⟩,N I 0] 151));have F:Hid (CI (K.alloc (J #[N I 0,U ⟨#[]⟩,N I 0] 151)) K.heap.size (N I 0) (U ⟨#[]⟩) (N I 0)):=nL K _;have ZL:=ae q.size;go_upto_region 12 with fail;generalize K.alloc (J #[N I 0,U ⟨#[]⟩,N I 0] 151)=W3 at y F ⊢;generalize K.heap.size=l at F ZL ⊢;clear q W S;go_wp2_with fail;refine(RI W3 y).mono ?_;rintro e w4 ⟨hR,L⟩;have G:=ae (y.trans (L.mono y.size));have s:=ae (F.aa L F.lt);clear L RI y F;have o:w.heap.size<=l:=ZL.out;have c0:=s.c0;have c1:=s.c1;have c2:=s.c2;have f0:=s.fz 0;have f1:=s.fz 1;have f2:=s.fz 2;have cl:=s.lt;cases rd with
 |none =>
  obtain⟨ty,p,rfl⟩:=hR;have ZM:=ae (((G.setCell (p:=(Q l 0 Y)) o (N I 0)).setCell (p:=(Q l 1 Y)) o (U ⟨#[]⟩)).setCell (p:=(Q l 2 Y)) o (N I 0));go_wp2;go_ret;first
   |exact⟨KR.u ZM ly,.inr ⟨rfl,ty,p,rfl⟩⟩
   |exact⟨KR.u ZM ly,ty,p,rfl⟩
 |some i =>
  obtain⟨op,tx,n⟩:=i;have hR:e=ZF (.tuple #[ZH #[N I op,U ⟨tx.toArray⟩,N I n],.nilIface]):=hR;subst hR;have D:=ae (s.all (N I op) (U ⟨tx.toArray⟩) (N I n));have q:=ae (((G.setCell (p:=(Q l 0 Y)) o (N I op)).setCell (p:=(Q l 1 Y)) o (U ⟨tx.toArray⟩)).setCell (p:=(Q l 2 Y)) o (N I n));go_upto_region 15 with fail;generalize ((w4.setCell (Q l 0 Y) (N I op)).setCell (Q l 1 Y) (U ⟨tx.toArray⟩)).setCell (Q l 2 Y) (N I n)=z at D q ⊢;clear c0 c1 c2 f0 f1 f2 cl s G;have c0:=D.c0;have c1:=D.c1;have c2:=D.c2;have cl:=D.lt;have A:=ae (ZK.aa q);have K1:Hid (KR b h w z):=KR.u q ly;have ZJ:(R++[r]).length=R.length+1:=by simp
  have cell:=cR (by rw[ZJ];have:=A.row.i;rw[ZJ] at this;exact this) (i:=R.length) (r:=r) (by simp) 4 (by omega) (u:=r.2.1) rfl;have m0:=cell.1;have ZN:=A.row.i.lt g rfl;have hgl2:=ZN.2;have hle:=A.le;have O:=ae (A.row.sub r (by simp)).H;obtain⟨av,cv,ZP⟩:=cJ O;have C:=ae ZP;rw[ZP] at m0;clear cell ZN ZP ZJ
  go_region_law (first
   |(refine aG rfl (.tmp 63) (.tmp 65) 41 rfl h 151 i1 (ZH #[N I 0,U ⟨#[]⟩,N I 0]) 3 32 RP hi aq bt dg rfl (by decide) (Z av r.1.f cv) r.1.f (bJ r.1.H r.1.f) (by simp[Act.eval]) (by rw[<-C.out];first|exact O.alloc _|exact O.drew.alloc _|exact O.drew.drew.alloc _) (Q z.heap.size 0 Y) 1 1 [N I op,U ⟨tx.toArray⟩,N I n] (by simp[Act.eval]) rfl (by first|exact fO z _ _ _ _|exact fO z.drew _ _ _ _|exact fO z.drew.drew _ _ _ _) (by simp[Value.oneCell']) (by unfold maxLen;omega) (by omega) (by simp;omega) ?_;intro v6 w6 j f t;rw[<-C.out] at f t;(first|have B:=ae (A.moreA (x:=⟨op,⟨tx.toArray⟩,n⟩) (dB _ z) j f t)|have B:=ae (A.moreA (x:=⟨op,⟨tx.toArray⟩,n⟩) (dB _ z).drew j f t)|have B:=ae (A.moreA (x:=⟨op,⟨tx.toArray⟩,n⟩) (dB _ z).drew.drew j f t));obtain⟨a6,c6,rfl⟩:=cJ j;have k0:=B.2.2.1;have k1:=B.2.2.2.1;have k2:=B.2.2.2.2;rw[C.out] at k0;clear j f t))
  all_goals
   go_simp;go_wp2;go_ret;exact⟨K1.trans B.2.1,.inl ⟨(op,tx,n),_,rfl,rfl,B.1⟩⟩
def LkR (A:Bool)(P:List UInt8 × List UInt8 × Bool)(l:Link):Prop:=if A=ZG then ∃n,eP P.2.1 n/\l=⟨⟨P.1.toArray⟩,ZG,ZA,n⟩ else l=⟨⟨P.1.toArray⟩,ZA,P.2.1 == [49],0⟩
theorem CL (A:Bool)(b s g c:Nat)(R:List DR)(r:DR)(rest:ByteArray)(w:M)(hS:RSt w b s (Z (T (Q g 0 Y)) (R.length+1) c) (R++[r]))(hn:(R.length:Int)<=400000)(hr:rest.size<=400000)(hk:(r.1.b:Int)<=400000)(hL:Lay w):Calls Pg 246 #[.pointer (T (Q b 0 Y)),U (if A=ZG then ⟨#[97,115,107]⟩ else ⟨#[104,97,115]⟩),U rest] w λe w'=>KR b s w w'/\((∃l v',LkR A (af 32 rest.data.toList) l/\e=ZF .nilIface/\RSt w' b s (Z (T (Q g 0 Y)) (R.length+1) c) (R++[(r.1.lkA l,r.2.1,v')]))∨((∀l,¬ LkR A (af 32 rest.data.toList) l)/\∃ty p,e=ZF (.iface ty p))):=by
 have ZK:=ae (λV=>fx rest 32 V (by unfold maxLen;omega));have S0:=ae hS;have ZM:=cy 32 rest.data.toList;rw[aO] at ZM;have L0:=ae (λV (hV:Below w.heap.size w V)=>hL.aa hV ly);generalize af 32 rest.data.toList=P at ZK ZM ⊢;obtain⟨nm,rs,sp⟩:=P;dsimp only at ZK ZM ⊢;clear hS hL;obtain⟨i1,hi,dg,fd,mv⟩:=OB iC;have r0:=S0.ab.c0;have r2:=S0.ab.lt;have q0:¬ ((R.length:Int)+1=0):=by omega
 have q1:(0:Int)<=(R.length:Int):=by omega
 have q2:(R.length:Int)<(R.length:Int)+1:=by omega
 have q3:(R.length:Int)+1 - 1=(R.length:Int):=by omega
 cases A
 all_goals
  simp only[if_true,TH,WW];go_enter func246,ntmps246;go_upto_region 3 with fail;go_quiet (fail);have ZJ:=BM (q9 w) nq;generalize w.drewN nq=W0 at ZJ ⊢;go_wp2_with fail;refine(ZK _).mono ?_;rintro e w1 ⟨rfl,m,rfl⟩;have ZL:=ZJ.trans ((BM (q9 W0) m).mono ZJ.size);generalize W0.drewN m=W at ZL ⊢;clear r0 r2 q0 q1 q2 q3 ZJ ZK;have bt:=ae ZL.size;have f:=ae (ZL.alloc ZL.size (J #[U ⟨nm.toArray⟩,ZD ZA,ZD ZA,N I 0] 91));have j:Hid (LBk (W.alloc (J #[U ⟨nm.toArray⟩,ZD ZA,ZD ZA,N I 0] 91)) W.heap.size #[U ⟨nm.toArray⟩,ZD ZA,ZD ZA,N I 0]):=nL W _;clear ZL;go_upto_region 7 with fail;generalize W.alloc (J #[U ⟨nm.toArray⟩,ZD ZA,ZD ZA,N I 0] 91)=L at f j ⊢;generalize W.heap.size=q at j bt ⊢;have D:w.heap.size<=q:=bt.out
 focus
  have la:∃hb:Bool,hb=(rs == [49]):=⟨_,rfl⟩
  obtain⟨hb,ZQ⟩:=la;replace ZQ:=ae ZQ;have c1:=j.at 1 rfl;have c2:=j.at 2 rfl;have f2:=j.fz 2;have H:=j.lt;have C:=ae (j.set 2 (ZD hb));replace f:=ae (f.setCell (p:=(Q q 2 Y)) D (ZD hb));go_wp2_with fail;refine(ym ZG _).mono ?_;rintro e V ⟨rfl,hV⟩;rw[hV];clear hV;go_upto_region 21 with fail;rw[<-ZQ.out];generalize L.setCell (Q q 2 Y) (ZD hb)=y at C f ⊢;clear c1 c2 f2 H j;have LL:Hid (∃l:Link,LkR ZA (nm,rs,sp) l/\LBk y q #[U l.e,ZD l.ask,ZD l.has,N I l.L]):=⟨⟨⟨nm.toArray⟩,ZA,hb,0⟩,by rw[ZQ.out];rfl,C⟩
 rotate_left;focus
  have N2:=ae (iI ⟨rs.toArray⟩ L (by show rs.length<=_;omega) (L0 L f).sy (L0 L f).ra (L0 L f).n (L0 L f).pw);dsimp only[vi] at N2;go_wp2_with fail;refine N2.mono ?_;rintro e w3 ⟨hN,ZN⟩;have ZO:=ae (f.trans (ZN.mono f.size));have C:=ae (j.aa ZN j.lt);clear ZN N2 f j;have c3:=C.at 3 rfl;have f3:=C.fz 3;have H:=C.lt;rcases hN with ⟨n,hN,rfl⟩|⟨ld,ty,p,rfl⟩
  rotate_left
  ·have B:=ae (ZO.setCell (p:=(Q q 3 Y)) D (N I 0))
   go_wp2;go_ret;exact⟨KR.u B ly,.inr ⟨λl ⟨n,h,_⟩=>ld n h,ty,p,rfl⟩⟩
  have ZP:=ae (C.set 3 (N I n));have B:=ae (ZO.setCell (p:=(Q q 3 Y)) D (N I n));have HN:=ae hN;clear hN;go_upto_region 19 with fail;generalize w3.setCell (Q q 3 Y) (N I n)=W4 at ZP B ⊢;clear c3 f3 H C ZO;have c1:=ZP.at 1 rfl;have f1:=ZP.fz 1;have H:=ZP.lt;have G:=ae (ZP.set 1 (ZD ZG));have O:=ae (B.setCell (p:=(Q q 1 Y)) D (ZD ZG));go_upto_region 20 with fail;generalize W4.setCell (Q q 1 Y) (ZD ZG)=W5 at G O ⊢;clear c1 f1 H ZP B;have c1:=G.at 1 rfl;have c2:=G.at 2 rfl;have f2:=G.fz 2;have H:=G.lt;have j:=ae (G.set 2 (ZD ZA));have f:=ae (O.setCell (p:=(Q q 2 Y)) D (ZD ZA));go_upto_region 21 with fail;generalize W5.setCell (Q q 2 Y) (ZD ZA)=y at j f ⊢;clear c1 c2 f2 H G O;have LL:Hid (∃l:Link,LkR ZG (nm,rs,sp) l/\LBk y q #[U l.e,ZD l.ask,ZD l.has,N I l.L]):=⟨⟨⟨nm.toArray⟩,ZG,ZA,n⟩,⟨n,HN,rfl⟩,j⟩
 all_goals
  obtain⟨l,K,hK⟩:=LL.out;have HL:=ae K;have S:=ae hK;clear K hK LL;have l0:=S.at 0 rfl;have l1:=S.at 1 rfl;have l2:=S.at 2 rfl;have l3:=S.at 3 rfl;have fl:=S.lt;have E:=ae (S0.aa f);have K1:Hid (KR b s w y):=KR.u f ly;have K:(R++[r]).length=R.length+1:=by simp
  have cell:=cR (by rw[K];have:=E.row.i;rw[K] at this;exact this) (i:=R.length) (r:=r) (by simp) 5 (by omega) (u:=r.2.2) rfl;have m0:=cell.1;have aq:=E.row.i.lt g rfl;have hgl2:=aq.2;have hle:=E.le;have U1:=ae (E.row.sub r (by simp)).V;obtain⟨av,cv,X⟩:=cJ U1;have ZR:=ae X;rw[X] at m0;clear cell aq X K
  go_region_law (first
   |(refine aG rfl (.tmp 93) (.tmp 95) 44 rfl s 91 i1 (ZH #[U ⟨#[]⟩,ZD ZA,ZD ZA,N I 0]) 4 32 Q2 hi dg fd mv rfl (by decide) (Z av r.1.b cv) r.1.b (bq r.1.D r.1.b) (by simp[Act.eval]) (by rw[<-ZR.out];first|exact U1.alloc _|exact U1.drew.alloc _|exact U1.drew.drew.alloc _) (Q y.heap.size 0 Y) 1 1 [U l.e,ZD l.ask,ZD l.has,N I l.L] (by simp[Act.eval]) rfl (by first|exact ez y _ _ _ _ _|exact ez y.drew _ _ _ _ _|exact ez y.drew.drew _ _ _ _ _) (by simp[Value.oneCell']) (by unfold maxLen;omega) (by omega) (by simp;omega) ?_;intro v6 w6 t o z;rw[<-ZR.out] at o z;(first|have F:=ae (E.moreL (x:=l) (dB _ y) t o z)|have F:=ae (E.moreL (x:=l) (dB _ y).drew t o z)|have F:=ae (E.moreL (x:=l) (dB _ y).drew.drew t o z));obtain⟨a6,c6,rfl⟩:=cJ t;have k0:=F.2.2.1;have k1:=F.2.2.2.1;have k2:=F.2.2.2.2;rw[ZR.out] at k0;clear t o z))
  all_goals
   go_simp;go_wp2;go_ret;exact⟨K1.trans F.2.1,.inl ⟨l,_,HL,rfl,F.1⟩⟩
theorem rH (h:GW D S W rest G)(e:W=rG∨W=vD):G=D:=by rcases h with ⟨_,rfl,rfl,rfl⟩|⟨_,rfl,rfl,rfl⟩|⟨_,_,_,rfl,rfl,rfl⟩|⟨_,rfl,rfl,rfl⟩|⟨_,_,_,_,_,_,rfl,rfl,rfl⟩|⟨_,_,_,_,rfl,rfl,rfl⟩|⟨_,_,_,_,_,_,rfl,rfl,rfl⟩|⟨_,_,_,rfl,rfl,rfl⟩<;>first|rfl|(rcases e with e|e<;>exact absurd e (by decide))
theorem CN (h:GW D S W rest G)(e:W=lc):∃t,OkD 1 rest 0 t/\G=D++[aV ⟨(af 32 rest).1.toArray⟩ 1 0 ⟨t.toArray⟩]:=by rcases h with ⟨_,rfl,rfl,rfl⟩|⟨_,rfl,rfl,rfl⟩|⟨_,_,_,rfl,rfl,rfl⟩|⟨_,rfl,rfl,rfl⟩|⟨_,_,_,_,_,_,rfl,rfl,rfl⟩|⟨_,_,_,_,rfl,rfl,rfl⟩|⟨_,_,_,_,_,_,rfl,rfl,rfl⟩|⟨_,_,_,rfl,rfl,rfl⟩<;>first|exact absurd e (by decide)|exact⟨_,by assumption,rfl⟩
theorem CO (h:GW D S W rest G)(e:W=li):G=D++[aV ⟨(af 32 rest).1.toArray⟩ 2 0 ⟨#[]⟩]:=by rcases h with ⟨_,rfl,rfl,rfl⟩|⟨_,rfl,rfl,rfl⟩|⟨_,_,_,rfl,rfl,rfl⟩|⟨_,rfl,rfl,rfl⟩|⟨_,_,_,_,_,_,rfl,rfl,rfl⟩|⟨_,_,_,_,rfl,rfl,rfl⟩|⟨_,_,_,_,_,_,rfl,rfl,rfl⟩|⟨_,_,_,rfl,rfl,rfl⟩<;>first|exact absurd e (by decide)|rfl
theorem JE (h:GW D S W rest G)(e:W=j5):∃n t,OkD 3 rest n t/\G=D++[aV ⟨(af 32 rest).1.toArray⟩ 3 n ⟨t.toArray⟩]:=by rcases h with ⟨_,rfl,rfl,rfl⟩|⟨_,rfl,rfl,rfl⟩|⟨_,_,_,rfl,rfl,rfl⟩|⟨_,rfl,rfl,rfl⟩|⟨_,_,_,_,_,_,rfl,rfl,rfl⟩|⟨_,_,_,_,rfl,rfl,rfl⟩|⟨_,_,_,_,_,_,rfl,rfl,rfl⟩|⟨_,_,_,rfl,rfl,rfl⟩<;>first|exact absurd e (by decide)|exact⟨_,_,by assumption,rfl⟩
theorem GI (h:GW D S W rest G)(e:W=wDo):∃b d i,D=b++[d]/\bF rest=T i/\G=b++[d.doA ⟨i.1,⟨i.2.1.toArray⟩,i.2.2⟩]:=by rcases h with ⟨_,rfl,rfl,rfl⟩|⟨_,rfl,rfl,rfl⟩|⟨_,_,_,rfl,rfl,rfl⟩|⟨_,rfl,rfl,rfl⟩|⟨_,_,_,_,_,_,rfl,rfl,rfl⟩|⟨_,_,_,_,rfl,rfl,rfl⟩|⟨_,_,_,_,_,_,rfl,rfl,rfl⟩|⟨_,_,_,rfl,rfl,rfl⟩<;>first|exact absurd e (by decide)|exact⟨_,_,_,rfl,by assumption,rfl⟩
theorem JF (h:GW D S W rest G)(e:W=iM):∃b d n,D=b++[d]/\eP (af 32 rest).2.1 n/\G=b++[d.lkA ⟨⟨(af 32 rest).1.toArray⟩,ZG,ZA,n⟩]:=by rcases h with ⟨_,rfl,rfl,rfl⟩|⟨_,rfl,rfl,rfl⟩|⟨_,_,_,rfl,rfl,rfl⟩|⟨_,rfl,rfl,rfl⟩|⟨_,_,_,_,_,_,rfl,rfl,rfl⟩|⟨_,_,_,_,rfl,rfl,rfl⟩|⟨_,_,_,_,_,_,rfl,rfl,rfl⟩|⟨_,_,_,rfl,rfl,rfl⟩<;>first|exact absurd e (by decide)|exact⟨_,_,_,rfl,by assumption,rfl⟩
theorem JG (h:GW D S W rest G)(e:W=iN):∃b d,D=b++[d]/\G=b++[d.lkA ⟨⟨(af 32 rest).1.toArray⟩,ZA,(af 32 rest).2.1 == [49],0⟩]:=by rcases h with ⟨_,rfl,rfl,rfl⟩|⟨_,rfl,rfl,rfl⟩|⟨_,_,_,rfl,rfl,rfl⟩|⟨_,rfl,rfl,rfl⟩|⟨_,_,_,_,_,_,rfl,rfl,rfl⟩|⟨_,_,_,_,rfl,rfl,rfl⟩|⟨_,_,_,_,_,_,rfl,rfl,rfl⟩|⟨_,_,_,rfl,rfl,rfl⟩<;>first|exact absurd e (by decide)|exact⟨_,_,rfl,rfl⟩
theorem yB (h:GW D S W rest G):W=rG∨W=vD∨W=lc∨W=li∨W=j5∨W=wDo∨W=iM∨W=iN:=by rcases h with ⟨_,rfl,rfl,rfl⟩|⟨_,rfl,rfl,rfl⟩|⟨_,_,_,rfl,rfl,rfl⟩|⟨_,rfl,rfl,rfl⟩|⟨_,_,_,_,_,_,rfl,rfl,rfl⟩|⟨_,_,_,_,rfl,rfl,rfl⟩|⟨_,_,_,_,_,_,rfl,rfl,rfl⟩|⟨_,_,_,rfl,rfl,rfl⟩<;>simp
theorem iY{b:Type}(R:List b):R=[]∨∃c r,R=c++[r]:=by
 rcases List.eq_nil_or_concat R with h|⟨x,y,h⟩
 {exact .inl h};{exact .inr ⟨x,y,by rw[h,List.concat_eq_append]⟩}
def CQ (w:M)(b c k:Nat)(R:List DR)(S:List UInt8)(e:Ending)(g:M):Prop :=
 KR b c w g/\((∃h i f,e=ZF .nilIface/\RSt g b c (Z h f.length i) f/\SzD (k+1) (f.map (·.1))/\∀G,Good (R.map (·.1)) S G->f.map (·.1)=G)∨((∀G,¬ Good (R.map (·.1)) S G)/\∃ty p,e=ZF (.iface ty p)))
theorem xz (b f:Nat)(a:Option Addr)(c:Nat)(wd rest:ByteArray)(w:M)(g:RSt w b f (Z a 0 c) [])(i:EV w 3):Calls Pg 246 #[.pointer (T (Q b 0 Y)),U wd,U rest] w λe h=>KR b f w h/\∃ty p,e=ZF (.iface ty p):=by have r0:=g.ab.c0;have r2:=g.ab.lt;obtain⟨hz,ty,p,he⟩:=i;clear g;go_enter func246,ntmps246;go_wp2;go_ret;exact⟨KR.refl _ _ _,ty,p,rfl⟩
theorem It{K:Int}(h:GW D S W rest G)(e:K=1/\W=lc∨K=2/\W=li∨K=3/\W=j5):∃n t,OkD K rest n t/\G=D++[aV ⟨(af 32 rest).1.toArray⟩ K n ⟨t.toArray⟩]:=by
 rcases e with ⟨rfl,e⟩|⟨rfl,e⟩|⟨rfl,e⟩
 {obtain⟨t,h1⟩:=CN h e;exact⟨0,t,h1⟩};{exact⟨0,[],⟨rfl,rfl⟩,CO h e⟩};{exact JE h e}
theorem Iu{k:Int}(h:OkD k s n t):t.length<=s.length:=by
 have h1:=Al t;have h2:=cy 32 s;have h3:=cy 32 (af 32 s).2.1;unfold OkD at h;split at h;{rw[<-h.2] at h1;omega};{split at h;{rw[<-h.2] at h1;omega};{rw[h.2];exact E4 _}}
def WiR (W s:List UInt8)(d b:Deed):Prop:=(W=wDo/\∃i,bF s=T i/\b=d.doA ⟨i.1,⟨i.2.1.toArray⟩,i.2.2⟩)∨∃A l,W=(if A=ZG then iM else iN)/\LkR A (af 32 s) l/\b=d.lkA l
theorem Iv (h:GW D S W rest G)(e:W=wDo∨W=iM∨W=iN):∃b d c,D=b++[d]/\WiR W rest d c/\G=b++[c]:=by
 rcases e with e|e|e;{obtain⟨b,d,i,h1,h2,h3⟩:=GI h e;exact⟨b,d,_,h1,.inl ⟨e,i,h2,rfl⟩,h3⟩};{obtain⟨b,d,n,h1,h2,h3⟩:=JF h e;exact⟨b,d,_,h1,.inr ⟨ZG,_,e,⟨n,h2,rfl⟩,rfl⟩,h3⟩};{obtain⟨b,d,h1,h3⟩:=JG h e;exact⟨b,d,_,h1,.inr ⟨ZA,_,e,rfl,rfl⟩,h3⟩}
theorem JH{d y:Deed}(h:WiR W s d x)(k:WiR W s d y):x=y:=by
 rcases h with ⟨rfl,i,h1,rfl⟩|⟨A,l,rfl,h1,rfl⟩<;>rcases k with ⟨e,j,b,rfl⟩|⟨B,m,e,b,rfl⟩
 ·rw[h1] at b;cases b
  rfl
 {cases B<;>simp at e};{cases A<;>simp at e}
 ·cases A<;>cases B<;>first|(simp at e;done)|skip
  {rw[show l=m from Eq.trans h1 b.symm]};{obtain⟨n,h1,rfl⟩:=h1;obtain⟨o,b,rfl⟩:=b;rw[sS h1 b]}
theorem Km{k:Nat}{d:Deed}(h:WiR W s d x)(hz:SzD k (D++[d]))(hs:s.length<=300000):SzD (k+1) (D++[x]):=by
 have hc:=cy 32 s;rcases h with ⟨rfl,i,h1,rfl⟩|⟨A,l,rfl,h1,rfl⟩
 ·refine hz.doA _ ?_;have h2:=ee (vG h1);have h3:aE i.1<=2000:=by unfold aE;split<;>omega
  show i.2.1.toArray.size<=300000;rw[CV];omega
 ·refine hz.lkA _ ?_;have e:l.e=⟨(af 32 s).1.toArray⟩:=by
   cases A
   {rw[show l=_ from h1]};{obtain⟨n,h1,rfl⟩:=h1;rfl}
  rw[e];show(af 32 s).1.toArray.size<=300000;rw[CV];omega
theorem vH (b f k:Nat)(a:Option Addr)(c:Nat)(R:List DR)(o:ByteArray)(w:M)(hS:RSt w b f (Z a R.length c) R)(W:SzD k (R.map (·.1)))(hk:k<=310000)(hl:o.size<=300000)(hL:Lay w)(hE:EV w 3):Calls Pg 193 #[.pointer (T (Q b 0 Y)),U o] w λe F=>CQ w b f k R o.data.toList e F:=by
 have ZP:=ae (λV=>fx o 32 V (by unfold maxLen;omega));have u:=ae (λG (h:Good (R.map (·.1)) o.data.toList G)=>fN h);have S0:=ae hS;have L0:=ae hL;have HK:=ae hk;have E0:=ae hE;have O:=ae W;have bt:R.length<=k:=by have:=W.1;simpa using this
 have C:=cy 32 o.data.toList;rw[aO] at C;unfold CQ;generalize o.data.toList=S at ZP u C ⊢;generalize af 32 S=P at ZP u C;obtain⟨wd,rs,sp⟩:=P;dsimp only at ZP u C;clear hS hL hE W;have hcl2:=cy 32 rs;go_enter func193,ntmps193;go_wp2_with fail;refine(ZP _).mono ?_;rintro e w1 ⟨rfl,m,rfl⟩;have ZQ:=ae (BM (q9 w) m);generalize w.drewN m=V at ZQ ⊢;have E:=ae (S0.aa ZQ);have ZO:=ae (L0.aa ZQ ly);have E1:=ae (E0.aa ZQ E0.1);have ZR:Hid (KR b f w V):=KR.u ZQ ly;clear ZP;by_cases h1:wd=[97,99,99,111,117,110,116]∨wd=[101,110,100]
 ·rcases h1 with rfl|rfl;all_goals
   go_wp2;go_ret;exact⟨ZR,.inl ⟨a,c,R,rfl,E,O.up (F6 _),λG h=>(rH (u G h) (by simp)).symm⟩⟩
 by_cases h2:∃K:Int,K=1/\wd=[115,111,117,114,99,101]∨K=2/\wd=[110,111,110,101]∨K=3/\wd=[116,97,114,103,101,116]
 ·obtain⟨K,h2⟩:=h2;have D:=ae (λG h=>It (u G h) h2);have DD:=ae (CH K (by rcases h2 with ⟨h,_⟩|⟨h,_⟩|⟨h,_⟩<;>simp[h]) b f a c R ⟨rs.toArray⟩ V E (by omega) (by show rs.length<=400000;omega) ZO);clear h1;rcases h2 with ⟨rfl,rfl⟩|⟨rfl,rfl⟩|⟨rfl,rfl⟩
  all_goals
   go_wp2_with fail;refine DD.mono ?_;rintro e w2 ⟨j,ZJ⟩;have z:=ae (ZR.trans j);rcases ZJ with ⟨n,t,a',c',R',H,rfl,ZL,hm⟩|⟨q,ty,p,rfl⟩
   ·have OK:=ae H
    have R2:=ae ZL;have HM:=ae hm;have ht:t.length<=rs.length:=Iu H;clear H ZL hm j;go_wp2;go_ret;refine⟨z,.inl ⟨a',c',R',rfl,R2,?_,λG h=>?_⟩⟩
    ·rw[HM.out]
     exact O.new _ _ _ _ (by show(af 32 rs).1.toArray.size<=300000;rw[CV];omega) (by show t.toArray.size<=300000;rw[CV];omega)
    ·rw[HM.out]
     obtain⟨n',t',h1,h2⟩:=D G h;obtain⟨h3,h4⟩:=Is OK h1;rw[h2,h3,h4]
   ·have HN:=ae q
    clear j q;go_wp2;go_ret;refine⟨z,.inr ⟨λG h=>?_,ty,p,rfl⟩⟩;obtain⟨n',t',h1,_⟩:=D G h;exact HN _ _ h1
 by_cases h3:wd=[100,111]∨wd=[97,115,107]∨wd=[104,97,115]
 ·have D:=ae (λG h=>Iv (u G h) h3);clear h1 h2;rcases iY R with rfl|⟨s,r,rfl⟩
  ·rcases h3 with rfl|rfl|rfl;all_goals
    go_wp2_with fail;refine(xz b f a c _ ⟨rs.toArray⟩ V E E1).mono ?_;rintro e w2 ⟨j,ty,p,rfl⟩;have z:=ae (ZR.trans j);clear j;go_wp2;go_ret;refine⟨z,.inr ⟨λG h=>?_,ty,p,rfl⟩⟩;obtain⟨D0,d,ZN,h1,_⟩:=D G h;simp at h1
  ·have L:(s++[r]).length=s.length+1:=by simp
   obtain⟨g,c2,aq⟩:=cC E.row.i (by rw[L];omega);cases aq
   have S2:Hid (RSt V b f (Z (T (Q g 0 Y)) (s.length+1) c) (s++[r])):=by have:=E.out;rw[L] at this;exact this
   have ZK:=O.2 r.1 (by simp);have hra:=ZK.a;have hrl:=ZK.l;rw[L] at bt;have WI:Hid (Calls Pg 246 #[.pointer (T (Q b 0 Y)),U ⟨wd.toArray⟩,U ⟨rs.toArray⟩] V λe F=>KR b f V F/\((∃d x y,WiR wd rs r.1 d/\e=ZF .nilIface/\RSt F b f (Z (T (Q g 0 Y)) (s.length+1) c) (s++[(d,x,y)]))∨((∀d ZN,¬ WiR wd rs d ZN)/\∃ty p,e=ZF (.iface ty p)))):=by
    rcases h3 with rfl|h
    ·refine(CJ b f g c s r ⟨rs.toArray⟩ V S2 (by omega) (by show rs.length<=400000;omega) (by omega) ZO).mono ?_;rintro e F ⟨j,⟨i,v,h1,h2,h3⟩|⟨h1,h2⟩⟩;{exact⟨j,.inl ⟨_,_,_,.inl ⟨rfl,i,h1,rfl⟩,h2,h3⟩⟩}
     ·refine⟨j,.inr ⟨λd ZN X=>?_,h2⟩⟩;rcases X with ⟨_,i,e,_⟩|⟨B,l,e,_⟩
      {rw[show bF rs=Y from h1] at e;cases e};{cases B<;>simp at e}
    ·obtain⟨A,h⟩:∃A,wd=(if A=ZG then iM else iN):=h.elim (λh=>⟨ZG,h⟩) (λh=>⟨ZA,h⟩);rw[show(⟨wd.toArray⟩:ByteArray)=if A=ZG then ⟨#[97,115,107]⟩ else ⟨#[104,97,115]⟩ by rw[h];cases A<;>rfl];refine(CL A b f g c s r ⟨rs.toArray⟩ V S2 (by omega) (by show rs.length<=400000;omega) (by omega) ZO).mono ?_;rintro e F ⟨j,⟨l,v,h1,h2,h3⟩|⟨h1,h2⟩⟩;{exact⟨j,.inl ⟨_,_,_,.inr ⟨A,l,h,h1,rfl⟩,h2,h3⟩⟩}
     ·refine⟨j,.inr ⟨λd ZN X=>?_,h2⟩⟩;rcases X with ⟨e,_⟩|⟨B,l,e,h3,_⟩
      {rw[h] at e;cases A<;>simp at e};{rw[h] at e;cases A<;>cases B<;>first|(simp at e;done)|exact h1 l h3}
   clear ZK E;rcases h3 with rfl|rfl|rfl;all_goals
    go_wp2_with fail;refine WI.mono ?_;rintro e w2 ⟨j,ZJ⟩;have z:=ae (ZR.trans j);rcases ZJ with ⟨d,x,y,hi,rfl,ZM⟩|⟨q,ty,p,rfl⟩
    ·have HI:=ae hi
     have R2:=ae ZM;clear hi ZM j;go_wp2;go_ret;refine⟨z,.inl ⟨_,_,_,rfl,R2.len (by simp),?_,λG h=>?_⟩⟩
     ·have hz:=O.out
      rw[DN,PU,PX] at hz ⊢;exact Km HI hz (by omega)
     ·obtain⟨D0,d0,d2,h1,h2,h3⟩:=D G h
      rw[DN,PU,PX] at h1 ⊢;obtain⟨rfl,h4⟩:=TG h1 rfl;cases h4
      rw[h3,JH h2 HI]
    ·have HN:=ae q
     clear j q;go_wp2;go_ret;refine⟨z,.inr ⟨λG h=>?_,ty,p,rfl⟩⟩;obtain⟨_,_,_,_,h2,_⟩:=D G h;exact HN _ _ h2
 have n:∀v,v=rG∨v=vD∨v=lc∨v=li∨v=j5∨v=wDo∨v=iM∨v=iN->(wd == v)=ZA:=λv hv=>by
  rw[beq_eq_false_iff_ne];rintro rfl;rcases hv with e|e|e|e|e|e|e|e;{exact h1 (.inl e)};{exact h1 (.inr e)};{exact h2 ⟨1,.inl ⟨rfl,e⟩⟩};{exact h2 ⟨2,.inr (.inl ⟨rfl,e⟩)⟩};{exact h2 ⟨3,.inr (.inr ⟨rfl,e⟩)⟩};{exact h3 (.inl e)};{exact h3 (.inr (.inl e))};{exact h3 (.inr (.inr e))}
 have HW:=ae n;have m1:=n [97,99,99,111,117,110,116] (by simp);have m2:=n [101,110,100] (by simp);have m3:=n [115,111,117,114,99,101] (by simp);have m4:=n [110,111,110,101] (by simp);have m5:=n [116,97,114,103,101,116] (by simp);have m6:=n [100,111] (by simp);have m7:=n [97,115,107] (by simp);have m8:=n [104,97,115] (by simp);clear n h1 h2 h3;obtain⟨hz,ty,p,he⟩:=ZO.wd;go_wp2;go_ret;exact⟨ZR,.inr ⟨λG h=>by have:=HW _ (yB (u G h));simp at this,ty,p,rfl⟩⟩
theorem sT{c:UInt8}(h:(af c s).2.2=ZA):af c s=(s,[],ZA):=by
 have h1:=fq c s;rw[gM (by rw[h];simp)] at h1;have h2:c ∉ s:=by rw[h1.2];exact h1.1
 exact gG h2
theorem gQ (n:Nat)(s:List UInt8)(x y:List UInt8)(b:Bool)(h:af 32 s=(x,y,b))(hn:0<n):(b=ZG/\aP n s=x::aP (n - 1) y)∨(b=ZA/\aP n s=[x]/\y=[]):=by
 obtain⟨m,rfl⟩:∃m,n=m+1:=⟨n - 1,by omega⟩
 cases b with
 |true =>refine .inl ⟨rfl,?_⟩;rw[aP,h,p6 rfl];rfl
 |false =>
  have f:=sT (c:=32) (s:=s) (by rw[h]);rw[h] at f;cases f
  refine .inr ⟨rfl,?_,rfl⟩;rw[aP,h,gM (by simp)]
theorem sU (n:Nat)(hn:0<n)(s:List UInt8):∃b,aP n s=(af 32 s).1::b:=by
 rcases gQ n s _ _ _ rfl hn with ⟨_,h⟩|⟨_,h,_⟩
 {exact⟨_,h⟩};{exact⟨_,h⟩}
theorem sV (n:Nat)(hn:2<=n)(s:List UInt8)(X:List (List UInt8)):∃b,aP n s++[]::X=(af 32 s).1::(af 32 (af 32 s).2.1).1::b:=by
 rcases gQ n s _ _ _ rfl (by omega) with ⟨_,h⟩|⟨_,h,h2⟩
 {obtain⟨b,h3⟩:=sU (n - 1) (by omega) (af 32 s).2.1;exact⟨b++[]::X,by rw[h,h3];rfl⟩};{rw[h,h2];exact⟨X,rfl⟩}
theorem sW (s:List UInt8):∃b,aP 2 s++[[],[]]=(af 32 s).1::(af 32 (af 32 s).2.1).1::(af 32 (af 32 s).2.1).2.1::b:=by
 rcases gQ 2 s _ _ _ rfl (by omega) with ⟨_,h⟩|⟨_,h,h2⟩
 ·rcases gQ 1 (af 32 s).2.1 _ _ _ rfl (by omega) with ⟨_,h3⟩|⟨_,h3,h4⟩
  {exact⟨[[],[]],by rw[h,show aP (2 - 1) (af 32 s).2.1=_ from h3];rfl⟩};{exact⟨[[]],by rw[h,show aP (2 - 1) (af 32 s).2.1=_ from h3,h4];rfl⟩}
 {rw[h,h2];exact⟨[],rfl⟩}
theorem oK (s:List UInt8)(X:List (List UInt8)):∃b,aP 3 s++[]::[]::X=(af 32 s).1::(af 32 (af 32 s).2.1).1::(af 32 (af 32 (af 32 s).2.1).2.1).1::b:=by
 rcases gQ 3 s _ _ _ rfl (by omega) with ⟨_,h⟩|⟨_,h,h2⟩
 {obtain⟨b,h3⟩:=sV 2 (by omega) (af 32 s).2.1 ([]::X);exact⟨b,by rw[h,IN,show aP (3 - 1) (af 32 s).2.1=aP 2 (af 32 s).2.1 from rfl,h3]⟩};{rw[h,h2];exact⟨X,rfl⟩}
theorem CR (s:List UInt8):∃b,aP 3 s++[[],[],[]]=(af 32 s).1::(af 32 (af 32 s).2.1).1::(af 32 (af 32 (af 32 s).2.1).2.1).1::(af 32 (af 32 (af 32 s).2.1).2.1).2.1::b:=by
 rcases gQ 3 s _ _ _ rfl (by omega) with ⟨_,h⟩|⟨_,h,h2⟩
 {obtain⟨b,h3⟩:=sW (af 32 s).2.1;refine⟨b++[[]],?_⟩;rw[h,show aP (3 - 1) (af 32 s).2.1=aP 2 (af 32 s).2.1 from rfl,show([[],[],[]]:List (List UInt8))=[[],[]]++[[]] from rfl,IN,<-OV,h3];rfl};{rw[h,h2];exact⟨[],rfl⟩}
theorem oL (t:List UInt8):be (bS (aF t))=t:=by rw[mV,ki]
theorem yC (h:eP s n)(b:0<=n)(h1:n<=2000):bQ 0 (s.take 6)=n/\(32:UInt8) ∉ s:=by have e:=h.1;rw[<-vE b] at e;rw[e,GF n.toNat (by omega)];exact⟨by omega,vF _⟩
theorem Iw (h:GW D S W rest G)(e:W=j5):∃n t,OkD 3 rest n t/\0<=n/\n<=5/\G=D++[aV ⟨(af 32 rest).1.toArray⟩ 3 n ⟨t.toArray⟩]:=by rcases h with ⟨_,rfl,rfl,rfl⟩|⟨_,rfl,rfl,rfl⟩|⟨_,_,_,rfl,rfl,rfl⟩|⟨_,rfl,rfl,rfl⟩|⟨_,_,_,_,_,_,rfl,rfl,rfl⟩|⟨_,_,_,_,rfl,rfl,rfl⟩|⟨_,_,_,_,_,_,rfl,rfl,rfl⟩|⟨_,_,_,rfl,rfl,rfl⟩<;>first|exact absurd e (by decide)|exact⟨_,_,by assumption,by assumption,by assumption,rfl⟩
theorem Iy (h:GW D S W rest G)(e:W=iM):∃b d n,D=b++[d]/\eP (af 32 rest).2.1 n/\0<=n/\n<=400/\G=b++[d.lkA ⟨⟨(af 32 rest).1.toArray⟩,ZG,ZA,n⟩]:=by rcases h with ⟨_,rfl,rfl,rfl⟩|⟨_,rfl,rfl,rfl⟩|⟨_,_,_,rfl,rfl,rfl⟩|⟨_,rfl,rfl,rfl⟩|⟨_,_,_,_,_,_,rfl,rfl,rfl⟩|⟨_,_,_,_,rfl,rfl,rfl⟩|⟨_,_,_,_,_,_,rfl,rfl,rfl⟩|⟨_,_,_,rfl,rfl,rfl⟩<;>first|exact absurd e (by decide)|exact⟨_,_,_,rfl,by assumption,by assumption,by assumption,rfl⟩
theorem Iz (h:GW D S W rest G)(e:W=iN):∃b d,D=b++[d]/\(32:UInt8) ∉ (af 32 rest).2.1/\G=b++[d.lkA ⟨⟨(af 32 rest).1.toArray⟩,ZA,(af 32 rest).2.1 == [49],0⟩]:=by rcases h with ⟨_,rfl,rfl,rfl⟩|⟨_,rfl,rfl,rfl⟩|⟨_,_,_,rfl,rfl,rfl⟩|⟨_,rfl,rfl,rfl⟩|⟨_,_,_,_,_,_,rfl,rfl,rfl⟩|⟨_,_,_,_,rfl,rfl,rfl⟩|⟨_,_,_,_,_,_,rfl,rfl,rfl⟩|⟨_,_,_,rfl,rfl,rfl⟩<;>first|exact absurd e (by decide)|exact⟨_,_,rfl,by assumption,rfl⟩
theorem JI (h:Good D S G)(e:(af 32 S).1=lc):G=D++[aV ⟨(af 32 (af 32 S).2.1).1.toArray⟩ 1 0 ⟨(be (bS (af 32 (af 32 S).2.1).2.1)).toArray⟩]:=by obtain⟨t,⟨_,h1⟩,h2⟩:=CN (fN h) e;rw[h2,h1,oL]
theorem JJ (h:Good D S G)(e:(af 32 S).1=li):G=D++[aV ⟨(af 32 (af 32 S).2.1).1.toArray⟩ 2 0 ⟨#[]⟩]:=CO (fN h) e
theorem JK (h:Good D S G)(e:(af 32 S).1=j5):G=D++[aV ⟨(af 32 (af 32 S).2.1).1.toArray⟩ 3 (bQ 0 ((af 32 (af 32 (af 32 S).2.1).2.1).1.take 6)) ⟨(be (bS (af 32 (af 32 (af 32 S).2.1).2.1).2.1)).toArray⟩]:=by obtain⟨n,t,b,c,h5,h2⟩:=Iw (fN h) e;unfold OkD at b;rw[p6 rfl] at b;rw[h2,b.2,oL,(yC b.1 c (by omega)).1]
def GJ (o:Option I3):Ins:=match o with
 |some i=>⟨i.1,⟨i.2.1.toArray⟩,i.2.2⟩
 |none=>tZ
theorem GK (h:Good D S G)(e:(af 32 S).1=wDo):∃b d,D=b++[d]/\3<S.length/\G=b++[d.doA (GJ (bF (S.drop 3)))]:=by
 obtain⟨b,d,i,h1,h2,h3⟩:=GI (fN h) e;have c:(af 32 S).2.1≠[]:=λm=>by have g:=oV h2;have:=He g.1;rw[<-g.2,m] at this;exact this rfl
 have f:=(fq 32 S).2;have l:(af 32 S).2.2=ZG:=by
  cases hb:(af 32 S).2.2 with
  |true=>rfl
  |false =>have:=sT hb;exact absurd (wA (λz=>z.2.1) this) c
 rw[p6 l,e] at f;have n:S.drop 3=(af 32 S).2.1:=by have h4:=wA (List.drop 3) f;exact h4
 refine⟨b,d,h1,?_,?_⟩;{have j:=wA List.length f;have h6:=GC.2 c;simp only[cM,eL,nX] at j;omega};{rw[n,h2];exact h3}
theorem CS (h:Good D S G)(e:(af 32 S).1=iM):∃b d,D=b++[d]/\G=b++[d.lkA ⟨⟨(af 32 (af 32 S).2.1).1.toArray⟩,ZG,ZA,bQ 0 ((af 32 (af 32 (af 32 S).2.1).2.1).1.take 6)⟩]:=by obtain⟨b,d,n,h1,hn,c,h4,h2⟩:=Iy (fN h) e;obtain⟨g,f⟩:=yC hn c (by omega);refine⟨b,d,h1,?_⟩;rw[h2,gG f,g]
theorem CY (h:Good D S G)(e:(af 32 S).1=iN):∃b d,D=b++[d]/\G=b++[d.lkA ⟨⟨(af 32 (af 32 S).2.1).1.toArray⟩,ZA,(af 32 (af 32 (af 32 S).2.1).2.1).1 == [49],0⟩]:=by obtain⟨b,d,h1,c,h2⟩:=Iz (fN h) e;refine⟨b,d,h1,?_⟩;rw[h2,gG c]
theorem FH (h:Good D S G)(i:¬ (af 32 S).1=lc)(l:¬ (af 32 S).1=li)(j:¬ (af 32 S).1=j5)(f:¬ (af 32 S).1=wDo)(g:¬ (af 32 S).1=iM)(c:¬ (af 32 S).1=iN):G=D:=by
 have b:=fN h;rcases yB b with h1|h1|h1|h1|h1|h1|h1|h1;{exact rH b (.inl h1)};{exact rH b (.inr h1)};{exact absurd h1 i};{exact absurd h1 l};{exact absurd h1 j};{exact absurd h1 f};{exact absurd h1 g};{exact absurd h1 c}
theorem IC{f E:List Deed}{l:List UInt8}{b:List (List UInt8)}(h1:l=[]->f=D)(h2:∀G,Good D l G->f=G)(h:bB D (tL (l::b)) E):bB f (tL b) E:=by
 cases b with
 |nil =>
  by_cases c:l=[]
  {rw[h1 c];subst c;exact h};{rw[Hk c] at h;obtain⟨G,h3,h4⟩:=h;rw[h2 G h3];exact h4}
 |cons l' b =>obtain⟨G,h3,h4⟩:=h;rw[h2 G h3];exact h4
