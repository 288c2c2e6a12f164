import Derived.Test.YtoddkejemcbkmaaGreatDoorRL
import Derived.Test.YtoddkejemcbkmaaGreatDoorQI
set_option maxRecDepth 100000
set_option maxHeartbeats 4000000
set_option linter.unusedSimpArgs false
open Go renaming Addr.mk->Q,Value.slice->Z,Value.string->U,Value.int->J,Obj.cells->N,IntKind.i64->I,World->M,Value->ZC,Ending.returned->ZF
open Option renaming none->Y,some->T
open Bool renaming false->ZA,true->ZG
namespace Go.Proofs.YtoddkejemcbkmaaGreatDoor.Vp
open Tryz RowKit Ca
variable {w:M}{g:Nat}{b:Array ZC}{n m:Int}{s t u:List UInt8}
def OkD (kind:Int)(rest:List UInt8)(n:Int)(t:List UInt8):Prop :=
 if kind=3 then dW (af 32 (af 32 rest).2.1).1 n/\(af 32 (af 32 rest).2.1).2.1=aJ t
 else if kind=1 then n=0/\(af 32 rest).2.1=aJ t else n=0/\t=[]
def lm (w:M)(b f:Nat)(R:List DR)(kind:Int)(rest:List UInt8)(e:Ending)(h:M):Prop :=
 KR b f w h/\((∃n t a c g,OkD kind rest n t/\e=ZF .nilIface/\RSt h b f (Z a g.length c) g/\g.map (·.1)=R.map (·.1)++[aQ ⟨(af 32 rest).1.toArray⟩ kind n ⟨t.toArray⟩])∨((∀n t,¬ OkD kind rest n t)/\∃ty p,e=ZF (.iface ty p)))
theorem RSt.len{b f:Nat}{a:Option Addr}{c n:Nat}{R:List DR}(h:RSt w b f (Z a n c) R)(hn:R.length=n):RSt w b f (Z a R.length c) R:=by rw[hn];exact h
theorem pX (t:List UInt8):t.length<=(aJ t).length:=by
 have b:∀l:List UInt8,l.length<=(l.flatMap enc).length:=λl=>by
  induction l with
  |nil=>exact n8 _
  |cons c l ih =>have:=jv c;simp only[J2,cM,eT];omega
 rw[dw];have:=b t;simp only[cM,eT];omega
def DBk (w:M)(g:Nat)(b:Array ZC):Prop:=w.heap[g]?=T (N b 62 (0,0))
theorem DBk.lt (h:DBk w g b):g<w.heap.size:=(gM.1 h).1
theorem DBk.at (h:DBk w g b)(j:Nat){u:ZC}(c:b[j]?=T u):w.cell? (Q g j Y)=T u:=by rw[IA h];exact c
theorem DBk.fz (h:DBk w g b)(j:Nat):w.frozen? (Q g j Y)=ZA:=MW h j
theorem DBk.aa{c:M}{B:Nat}(h:DBk w g b)(hb:Below B w c)(f:g<B):DBk c g b:=(hb.block g f).trans h
theorem DBk.set (h:DBk w g b)(j:Nat)(v:ZC):DBk (w.setCell (Q g j Y) v) g (b.setIfInBounds j v):=by unfold DBk at *;simp[World.setCell,CV,h]
theorem Bl (b j:Nat)(a:Option Addr)(c:Nat)(R:List DR)(rest:ByteArray)(w:M)(y:RSt w b j (Z a R.length c) R)(hn:(R.length:Int)<=400000)(hr:rest.size<=400000):Calls Tryz.prog 103 #[.pointer (T (Q b 0 Y)),J I 2,U rest] w λe H=>lm w b j R 2 rest.data.toList e H:=by
 have q:=ae (λV=>bQ rest 32 V (by unfold maxLen;omega));have G:=ae y;have t:Hid (OkD 2 rest.data.toList 0 []):=⟨rfl,rfl⟩
 have o:=aS 32 rest.data.toList;rw[aH] at o;unfold lm;generalize rest.data.toList=S at q t o ⊢;generalize af 32 S=P at q t o ⊢;obtain⟨nm,rs,sp⟩:=P;dsimp only at q t o ⊢;clear y;obtain⟨D,hi,C,A,B⟩:=LY eu;go_enter func103,ntmps103;go_wp2_with fail;refine(q.out _).mono ?_;rintro e w1 ⟨rfl,m,rfl⟩;have s:=AS (q9 w) m;generalize w.drewN m=r at s ⊢;have u:=s.alloc s.size (N #[U ⟨nm.toArray⟩,J I 2,J I 0,U ⟨#[]⟩,Z Y 0 0,Z Y 0 0] 62);have i:Hid (DBk (r.alloc (N #[U ⟨nm.toArray⟩,J I 2,J I 0,U ⟨#[]⟩,Z Y 0 0,Z Y 0 0] 62)) r.heap.size #[U ⟨nm.toArray⟩,J I 2,J I 0,U ⟨#[]⟩,Z Y 0 0,Z Y 0 0]):=n6 r _;have p:=ae u;clear s u q;go_upto_region 15 with fail;generalize r.alloc (N #[U ⟨nm.toArray⟩,J I 2,J I 0,U ⟨#[]⟩,Z Y 0 0,Z Y 0 0] 62)=l at p i ⊢;generalize r.heap.size=dB at i ⊢;have x:=p;clear p;have h:=ae (G.out.aa x.out);have E:Hid (KR b j w l):=KR.u x.out ly;have c0:=i.out.at 0 rfl;have c1:=i.out.at 1 rfl;have c2:=i.out.at 2 rfl;have c3:=i.out.at 3 rfl;have c4:=i.out.at 4 rfl;have c5:=i.out.at 5 rfl;have cl:=i.out.lt;have r0:=h.out.H.c0;have r1:=h.out.H.fz;have r2:=h.out.H.lt;have hle:=h.out.le
 go_region_law (first
  |(refine aA rfl (.tmp 55) (.tmp 57) 23 rfl j 62 D (.agg #[U ⟨#[]⟩,J I 0,J I 0,U ⟨#[]⟩,Z Y 0 0,Z Y 0 0]) 6 96 MS hi C A B rfl (by decide) (Z a R.length c) R.length (R.flatMap ddV) (by simp[Act.eval]) (by first|exact h.out.row.i.alloc _|exact h.out.row.i.drew.alloc _|exact h.out.row.i.drew.drew.alloc _) (Q l.heap.size 0 Y) 1 1 [U ⟨nm.toArray⟩,J I 2,J I 0,U ⟨#[]⟩,Z Y 0 0,Z Y 0 0] (by simp[Act.eval]) rfl (by first|exact cA l _ _ _ _ _ _ _|exact cA l.drew _ _ _ _ _ _ _|exact cA l.drew.drew _ _ _ _ _ _ _) (by simp[Value.oneCell']) (by unfold maxLen;omega) (by omega) (by simp;omega) ?_;intro v6 w6 g f z;(first|have n:=ae (h.out.ad (eL _ l) g f)|have n:=ae (h.out.ad (eL _ l).drew g f)|have n:=ae (h.out.ad (eL _ l).drew.drew g f));obtain⟨F,ZP,rfl⟩:=bK g;have k0:=n.out.2.2.c0;have k1:=n.out.2.2.fz;have k2:=n.out.2.2.lt;clear g f z))
 all_goals
  go_simp;go_wp2;go_ret;exact⟨E.out.trans n.out.2.1,.inl ⟨0,[],F,ZP,R++[(aQ ⟨nm.toArray⟩ 2 0 ⟨#[]⟩,Z Y 0 0,Z Y 0 0)],t.out,rfl,n.out.1.len (by simp),by simp⟩⟩
theorem Bm (b j:Nat)(a:Option Addr)(c:Nat)(R:List DR)(rest:ByteArray)(w:M)(ZN:RSt w b j (Z a R.length c) R)(hn:(R.length:Int)<=400000)(hr:rest.size<=400000)(hL:Lay w):Calls Tryz.prog 103 #[.pointer (T (Q b 0 Y)),J I 1,U rest] w λe w'=>lm w b j R 1 rest.data.toList e w':=by
 have z:=ae (λV=>bQ rest 32 V (by unfold maxLen;omega));have S0:=ae ZN;have L0:=ae (λV (hV:Below w.heap.size w V)=>hL.aa hV ly);have B:Hid (∀n t,OkD 1 rest.data.toList n t ↔ n=0/\(af 32 rest.data.toList).2.1=aJ t):=λn t=>Iff.rfl;have x:=aS 32 rest.data.toList;rw[aH] at x;unfold lm;generalize rest.data.toList=S at z B x ⊢;generalize af 32 S=P at z B x ⊢;obtain⟨nm,rs,sp⟩:=P;dsimp only at z B x ⊢;clear ZN hL;obtain⟨i1,hi,ZI,W,ZJ⟩:=LY eu;go_enter func103,ntmps103;go_wp2_with fail;refine(z.out _).mono ?_;rintro e w1 ⟨rfl,m,rfl⟩;have y:=AS (q9 w) m;generalize w.drewN m=A at y ⊢;have ZQ:=y.alloc y.size (N #[U ⟨nm.toArray⟩,J I 1,J I 0,U ⟨#[]⟩,Z Y 0 0,Z Y 0 0] 62);have H:Hid (DBk (A.alloc (N #[U ⟨nm.toArray⟩,J I 1,J I 0,U ⟨#[]⟩,Z Y 0 0,Z Y 0 0] 62)) A.heap.size #[U ⟨nm.toArray⟩,J I 1,J I 0,U ⟨#[]⟩,Z Y 0 0,Z Y 0 0]):=n6 A _;have E:=ae ZQ;have ZO:=ae y.size;clear y ZQ z;go_upto_region 12 with fail;generalize A.alloc (N #[U ⟨nm.toArray⟩,J I 1,J I 0,U ⟨#[]⟩,Z Y 0 0,Z Y 0 0] 62)=X at E H ⊢;generalize A.heap.size=ZP at H ZO ⊢;have K:w.heap.size<=ZP:=ZO.out;have u:=E;have D:=H;clear E H;have L:=ae (kJ ⟨rs.toArray⟩ X (by show rs.length<=_;omega) (L0.out X u.out).q);dsimp only[pN] at L;go_wp2_with fail;refine L.out.mono ?_;rintro e w2 ⟨hU,C⟩;have F:=ae (u.out.trans (C.mono u.out.size));have G:=ae (D.out.aa C D.out.lt);clear C L;have c3:=G.out.at 3 rfl;have f3:=G.out.fz 3;have ZM:=G.out.lt;rcases hU with ⟨t,ZL,rfl⟩|⟨O,ty,p,rfl⟩
 ·have r:=ae (G.out.set 3 (U ⟨t.toArray⟩));have o:=ae (F.out.setCell (p:=(Q ZP 3 Y)) K (U ⟨t.toArray⟩));have HT:=ae ZL;clear ZL;go_upto_region 15 with fail;generalize w2.setCell (Q ZP 3 Y) (U ⟨t.toArray⟩)=l at r o ⊢;clear c3 f3 ZM G F u D;have u:=o;clear o;have i:=ae (S0.out.aa u.out);have K1:Hid (KR b j w l):=KR.u u.out ly;have c0:=r.out.at 0 rfl;have c1:=r.out.at 1 rfl;have c2:=r.out.at 2 rfl;have c3:=r.out.at 3 rfl;have c4:=r.out.at 4 rfl;have c5:=r.out.at 5 rfl;have ZM:=r.out.lt;have r0:=i.out.H.c0;have r1:=i.out.H.fz;have r2:=i.out.H.lt;have hle:=i.out.le
  go_region_law (first
   |(refine aA rfl (.tmp 55) (.tmp 57) 23 rfl j 62 i1 (.agg #[U ⟨#[]⟩,J I 0,J I 0,U ⟨#[]⟩,Z Y 0 0,Z Y 0 0]) 6 96 MS hi ZI W ZJ rfl (by decide) (Z a R.length c) R.length (R.flatMap ddV) (by simp[Act.eval]) (by first|exact i.out.row.i.alloc _|exact i.out.row.i.drew.alloc _|exact i.out.row.i.drew.drew.alloc _) (Q l.heap.size 0 Y) 1 1 [U ⟨nm.toArray⟩,J I 1,J I 0,U ⟨t.toArray⟩,Z Y 0 0,Z Y 0 0] (by simp[Act.eval]) rfl (by first|exact cA l _ _ _ _ _ _ _|exact cA l.drew _ _ _ _ _ _ _|exact cA l.drew.drew _ _ _ _ _ _ _) (by simp[Value.oneCell']) (by unfold maxLen;omega) (by omega) (by simp;omega) ?_;intro v6 w6 g f ZK;(first|have s:=ae (i.out.ad (eL _ l) g f)|have s:=ae (i.out.ad (eL _ l).drew g f)|have s:=ae (i.out.ad (eL _ l).drew.drew g f));obtain⟨a6,c6,rfl⟩:=bK g;have k0:=s.out.2.2.c0;have k1:=s.out.2.2.fz;have k2:=s.out.2.2.lt;clear g f ZK))
  all_goals
   go_simp;go_wp2;go_ret;exact⟨K1.out.trans s.out.2.1,.inl ⟨0,t,a6,c6,R++[(aQ ⟨nm.toArray⟩ 1 0 ⟨t.toArray⟩,Z Y 0 0,Z Y 0 0)],(B.out 0 t).2 ⟨rfl,HT.out⟩,rfl,s.out.1.len (by simp),by simp⟩⟩
 {have o:=ae (F.out.setCell (p:=(Q ZP 3 Y)) K (U ⟨#[]⟩));go_wp2;go_ret;exact⟨KR.u o.out ly,.inr ⟨λn t h=>O t ((B.out n t).1 h).2,ty,p,rfl⟩⟩}
theorem Bn (b u:Nat)(a:Option Addr)(c:Nat)(R:List DR)(rest:ByteArray)(w:M)(hS:RSt w b u (Z a R.length c) R)(hn:(R.length:Int)<=400000)(hr:rest.size<=400000)(hL:Lay w):Calls Tryz.prog 103 #[.pointer (T (Q b 0 Y)),J I 3,U rest] w λe w'=>lm w b u R 3 rest.data.toList e w':=by
 have K:=ae (λV=>bQ rest 32 V (by unfold maxLen;omega));have S0:=ae hS;have ZM:=ae (λV (hV:Below w.heap.size w V)=>hL.aa hV ly);have z:Hid (∀n t,OkD 3 rest.data.toList n t ↔ dW (af 32 (af 32 rest.data.toList).2.1).1 n/\(af 32 (af 32 rest.data.toList).2.1).2.1=aJ t):=λn t=>Iff.rfl;have F:=aS 32 rest.data.toList;rw[aH] at F;unfold lm;generalize rest.data.toList=S at K z F ⊢;generalize af 32 S=P at K z F ⊢;obtain⟨nm,rs,sp⟩:=P;dsimp only at K z F ⊢;have x:=ae (λV=>bQ ⟨rs.toArray⟩ 32 V (by show rs.length<=_;unfold maxLen;omega));have O:=aS 32 rs;dsimp only at x;generalize af 32 rs=P2 at x z O;obtain⟨cd,ZI,sp2⟩:=P2;dsimp only at x z O;clear hS hL;obtain⟨i1,hi,fd,bt,dg⟩:=LY eu;go_enter func103,ntmps103;go_wp2_with fail;refine(K.out _).mono ?_;rintro e w1 ⟨rfl,m,rfl⟩;have ZO:=AS (q9 w) m;generalize w.drewN m=L at ZO ⊢;have A1:=ZO.alloc ZO.size (N #[U ⟨nm.toArray⟩,J I 3,J I 0,U ⟨#[]⟩,Z Y 0 0,Z Y 0 0] 62);have G:Hid (DBk (L.alloc (N #[U ⟨nm.toArray⟩,J I 3,J I 0,U ⟨#[]⟩,Z Y 0 0,Z Y 0 0] 62)) L.heap.size #[U ⟨nm.toArray⟩,J I 3,J I 0,U ⟨#[]⟩,Z Y 0 0,Z Y 0 0]):=n6 L _;have C:=ae A1;have W:=ae ZO.size;clear ZO A1 K;go_upto_region 8 with fail;generalize L.alloc (N #[U ⟨nm.toArray⟩,J I 3,J I 0,U ⟨#[]⟩,Z Y 0 0,Z Y 0 0] 62)=W1 at C G ⊢;generalize L.heap.size=A at G W ⊢;have E:w.heap.size<=A:=W.out;go_wp2_with fail;refine(x.out _).mono ?_;rintro e w1 ⟨rfl,m2,rfl⟩;have B2:=AS (q9 W1) m2;have f:=ae (C.out.trans (B2.mono C.out.size));have s:=ae (G.out.aa B2 G.out.lt);clear B2 C G x;generalize W1.drewN m2=H at f s ⊢;have X:=ae (iz ⟨cd.toArray⟩ H (by show cd.length<=_;omega) (ZM.out H f.out).sy (ZM.out H f.out).ra (ZM.out H f.out).n (ZM.out H f.out).pw);dsimp only[un] at X;go_wp2_with fail;refine X.out.mono ?_;rintro e w3 ⟨ZK,ZP⟩;have g:=ae (f.out.trans (ZP.mono f.out.size));have i:=ae (s.out.aa ZP s.out.lt);clear ZP X f s;have c2:=i.out.at 2 rfl;have f2:=i.out.fz 2;have ZL:=i.out.lt;rcases ZK with ⟨n,ZK,rfl⟩|⟨ZQ,ty,p,rfl⟩
 ·have D:=ae (i.out.set 2 (J I n));have r:=ae (g.out.setCell (p:=(Q A 2 Y)) E (J I n));have HN:=ae ZK;clear ZK;go_upto_region 12 with fail;generalize w3.setCell (Q A 2 Y) (J I n)=W4 at D r ⊢;clear c2 f2 ZL i g;have ZJ:=ae (kJ ⟨ZI.toArray⟩ W4 (by show ZI.length<=_;omega) (ZM.out W4 r.out).q);dsimp only[pN] at ZJ;go_wp2_with fail;refine ZJ.out.mono ?_;rintro e w2 ⟨hU,ZN⟩;have f:=ae (r.out.trans (ZN.mono r.out.size));have s:=ae (D.out.aa ZN D.out.lt);clear ZN ZJ;have c3:=s.out.at 3 rfl;have f3:=s.out.fz 3;have ZL:=s.out.lt;rcases hU with ⟨t,ht,rfl⟩|⟨ZQ,ty,p,rfl⟩
  ·have i:=ae (s.out.set 3 (U ⟨t.toArray⟩));have g:=ae (f.out.setCell (p:=(Q A 3 Y)) E (U ⟨t.toArray⟩));have HT:=ae ht;clear ht;go_upto_region 15 with fail;generalize w2.setCell (Q A 3 Y) (U ⟨t.toArray⟩)=y at i g ⊢;clear c3 f3 ZL s f r D;have r:=g;clear g;have o:=ae (S0.out.aa r.out);have K1:Hid (KR b u w y):=KR.u r.out ly;have c0:=i.out.at 0 rfl;have c1:=i.out.at 1 rfl;have c2:=i.out.at 2 rfl;have c3:=i.out.at 3 rfl;have c4:=i.out.at 4 rfl;have c5:=i.out.at 5 rfl;have ZL:=i.out.lt;have r0:=o.out.H.c0;have r1:=o.out.H.fz;have ZI:=o.out.H.lt;have hle:=o.out.le
   go_region_law (first
    |(refine aA rfl (.tmp 55) (.tmp 57) 23 rfl u 62 i1 (.agg #[U ⟨#[]⟩,J I 0,J I 0,U ⟨#[]⟩,Z Y 0 0,Z Y 0 0]) 6 96 MS hi fd bt dg rfl (by decide) (Z a R.length c) R.length (R.flatMap ddV) (by simp[Act.eval]) (by first|exact o.out.row.i.alloc _|exact o.out.row.i.drew.alloc _|exact o.out.row.i.drew.drew.alloc _) (Q y.heap.size 0 Y) 1 1 [U ⟨nm.toArray⟩,J I 3,J I n,U ⟨t.toArray⟩,Z Y 0 0,Z Y 0 0] (by simp[Act.eval]) rfl (by first|exact cA y _ _ _ _ _ _ _|exact cA y.drew _ _ _ _ _ _ _|exact cA y.drew.drew _ _ _ _ _ _ _) (by simp[Value.oneCell']) (by unfold maxLen;omega) (by omega) (by simp;omega) ?_;intro v6 w6 l j aq;(first|have B:=ae (o.out.ad (eL _ y) l j)|have B:=ae (o.out.ad (eL _ y).drew l j)|have B:=ae (o.out.ad (eL _ y).drew.drew l j));obtain⟨a6,c6,rfl⟩:=bK l;have k0:=B.out.2.2.c0;have k1:=B.out.2.2.fz;have k2:=B.out.2.2.lt;clear l j aq))
   all_goals
    go_simp;go_wp2;go_ret;exact⟨K1.out.trans B.out.2.1,.inl ⟨n,t,a6,c6,R++[(aQ ⟨nm.toArray⟩ 3 n ⟨t.toArray⟩,Z Y 0 0,Z Y 0 0)],(z.out n t).2 ⟨HN.out,HT.out⟩,rfl,B.out.1.len (by simp),by simp⟩⟩
  {have g:=ae (f.out.setCell (p:=(Q A 3 Y)) E (U ⟨#[]⟩));go_wp2;go_ret;exact⟨KR.u g.out ly,.inr ⟨λn t h=>ZQ t ((z.out n t).1 h).2,ty,p,rfl⟩⟩}
 {have r:=ae (g.out.setCell (p:=(Q A 2 Y)) E (J I 0));go_wp2;go_ret;exact⟨KR.u r.out ly,.inr ⟨λn t h=>ZQ n ((z.out n t).1 h).1,ty,p,rfl⟩⟩}
abbrev oZ:List UInt8:=[97,99,99,111,117,110,116]
abbrev qO:List UInt8:=[101,110,100]
abbrev kN:List UInt8:=[115,111,117,114,99,101]
abbrev kO:List UInt8:=[110,111,110,101]
abbrev jQ:List UInt8:=[116,97,114,103,101,116]
abbrev wDo:List UInt8:=[100,111]
abbrev jR:List UInt8:=[97,115,107]
abbrev jS:List UInt8:=[104,97,115]
theorem uF (h:0<=n):Lib.decDigits n.toNat=Lib.itoa n:=by rw[<-Lib.itoa_nonneg];congr 1;omega
theorem rV (b:0<=n)(h1:n<=400):dW (Lib.decDigits n.toNat) n:=⟨uF b,by omega,by omega⟩
theorem rW (h:dW s n)(k:dW s m):n=m:=by have h1:=iu h;have h2:=iu k;rw[h1] at h2;exact Lib.NumEnd.ok.inj h2
theorem pY (h:aJ t=aJ u):t=u:=by rw[dw,dw] at h;simp only[IS,List.cons.injEq,QR] at h;exact gP (List.append_cancel_right h)
theorem qP{k:Int}(h:OkD k s n t)(b:OkD k s m u):n=m/\t=u:=by
 unfold OkD at h b;split at h;{rename_i f;rw[p7 f] at b;exact⟨rW h.1 b.1,pY (h.2.symm.trans b.2)⟩};{rename_i f;rw[nD f] at b;split at h;{rename_i c;rw[p7 c] at b;exact⟨h.1.trans b.1.symm,pY (h.2.symm.trans b.2)⟩};{rename_i c;rw[nD c] at b;exact⟨h.1.trans b.1.symm,h.2.trans b.2.symm⟩}}
theorem uG:∀n:Nat,(32:UInt8) ∉ Lib.decDigits n:=by
 intro n;induction n using Nat.strongRecOn with
 |ind n c =>
  rw[Lib.decDigits];split;{rename_i h;intro h2;have h3:=nL.1 h2;have h4:=AP UInt8.toNat h3;rw[MJ] at h4;have b:(32:UInt8).toNat=32:=rfl;omega};{rename_i h;intro h2;rcases p8.1 h2 with h2|h2;{exact c (n / 10) (by omega) h2};{have h3:=nL.1 h2;have h4:=AP UInt8.toNat h3;rw[MJ] at h4;have b:(32:UInt8).toNat=32:=rfl;omega}}
def GW (X:List Deed)(_S:List UInt8)(W:List UInt8)(rest:List UInt8)(ZI:List Deed):Prop :=
 (∃(D:List Deed),X=D/\W=oZ/\ZI=D) ∨
 (∃(D:List Deed),X=D/\W=qO/\ZI=D) ∨
 (∃(D:List Deed) (t:List UInt8),OkD 1 rest 0 t/\X=D/\W=kN/\ZI=(D++[aQ ⟨(af 32 rest).1.toArray⟩ 1 0 ⟨t.toArray⟩])) ∨
 (∃(D:List Deed),X=D/\W=kO/\ZI=(D++[aQ ⟨(af 32 rest).1.toArray⟩ 2 0 ⟨#[]⟩])) ∨
 (∃(D:List Deed) (t:List UInt8) (n:Int),OkD 3 rest n t/\0<=n/\n<=5/\X=D/\W=jQ/\ZI=(D++[aQ ⟨(af 32 rest).1.toArray⟩ 3 n ⟨t.toArray⟩])) ∨
 (∃(D:List Deed) (d:Deed) (i:I3),bA rest=T i/\X=(D++[d])/\W=wDo/\ZI=(D++[d.doA ⟨i.1,⟨i.2.1.toArray⟩,i.2.2⟩])) ∨
 (∃(D:List Deed) (d:Deed) (n:Int),dW (af 32 rest).2.1 n/\0<=n/\n<=400/\X=(D++[d])/\W=jR/\ZI=(D++[d.lkA ⟨⟨(af 32 rest).1.toArray⟩,ZG,ZA,n⟩])) ∨
 (∃(D:List Deed) (d:Deed),(32:UInt8) ∉ (af 32 rest).2.1/\X=(D++[d])/\W=jS/\ZI=(D++[d.lkA ⟨⟨(af 32 rest).1.toArray⟩,ZA,(af 32 rest).2.1 == [49],0⟩]))
theorem GW.acc (D:List Deed)(S rest:List UInt8):GW D S oZ rest D:=.inl ⟨D,rfl,rfl,rfl⟩
theorem GW.fin (D:List Deed)(S rest:List UInt8):GW D S qO rest D:=.inr (.inl ⟨D,rfl,rfl,rfl⟩)
theorem GW.src (D:List Deed)(S rest t:List UInt8)(b:OkD 1 rest 0 t):GW D S kN rest (D++[aQ ⟨(af 32 rest).1.toArray⟩ 1 0 ⟨t.toArray⟩]):=.inr (.inr (.inl ⟨D,t,b,rfl,rfl,rfl⟩))
theorem GW.non (D:List Deed)(S rest:List UInt8):GW D S kO rest (D++[aQ ⟨(af 32 rest).1.toArray⟩ 2 0 ⟨#[]⟩]):=.inr (.inr (.inr (.inl ⟨D,rfl,rfl,rfl⟩)))
theorem GW.K (D:List Deed)(S rest t:List UInt8)(n:Int)(b:OkD 3 rest n t)(h1:0<=n)(h2:n<=5):GW D S jQ rest (D++[aQ ⟨(af 32 rest).1.toArray⟩ 3 n ⟨t.toArray⟩]):=.inr (.inr (.inr (.inr (.inl ⟨D,t,n,b,h1,h2,rfl,rfl,rfl⟩))))
theorem GW.G (D:List Deed)(d:Deed)(S rest:List UInt8)(i:I3)(b:bA rest=T i):GW (D++[d]) S wDo rest (D++[d.doA ⟨i.1,⟨i.2.1.toArray⟩,i.2.2⟩]):=.inr (.inr (.inr (.inr (.inr (.inl ⟨D,d,i,b,rfl,rfl,rfl⟩)))))
theorem GW.ask (D:List Deed)(d:Deed)(S rest:List UInt8)(n:Int)(b:dW (af 32 rest).2.1 n)(h1:0<=n)(h2:n<=400):GW (D++[d]) S jR rest (D++[d.lkA ⟨⟨(af 32 rest).1.toArray⟩,ZG,ZA,n⟩]):=.inr (.inr (.inr (.inr (.inr (.inr (.inl ⟨D,d,n,b,h1,h2,rfl,rfl,rfl⟩))))))
theorem GW.has (D:List Deed)(d:Deed)(S rest:List UInt8)(b:(32:UInt8) ∉ (af 32 rest).2.1):GW (D++[d]) S jS rest (D++[d.lkA ⟨⟨(af 32 rest).1.toArray⟩,ZA,(af 32 rest).2.1 == [49],0⟩]):=.inr (.inr (.inr (.inr (.inr (.inr (.inr ⟨D,d,b,rfl,rfl,rfl⟩))))))
theorem ec{w y:List UInt8}(b:(32:UInt8) ∉ w):af 32 (w++32::y)=(w,y,ZG):=kV y b
theorem cU{D G:List Deed}{S:List UInt8}(h:Good D S G):GW D S (af 32 S).1 (af 32 S).2.1 G:=by
 rcases h with ⟨i,n,rfl,rfl,rfl⟩|⟨i,rfl,rfl,rfl⟩|⟨i,d,c,rfl,rfl,rfl⟩|⟨i,d,c,rfl,rfl,rfl⟩|⟨i,d,c,f,y,rfl,rfl,rfl⟩|⟨D,d,x,r,rfl,rfl,rfl⟩|⟨D,d,l,m,f,h4,p,hb,rfl,rfl,rfl⟩
 {rw[show[97,99,99,111,117,110,116,32]++Lib.decDigits n=oZ++32::Lib.decDigits n from rfl,ec (by decide)];exact GW.acc _ _ _};{exact GW.fin _ _ _}
 ·have e:ix d=kN++32::(d.e.data.toList++32::aJ d.h.data.toList):=by simp[ix]
  have b:af 32 (d.e.data.toList++32::aJ d.h.data.toList)=(d.e.data.toList,aJ d.h.data.toList,ZG):=ec c;rw[e,ec (by decide)];have g:=GW.src D (kN++32::(d.e.data.toList++32::aJ d.h.data.toList)) (d.e.data.toList++32::aJ d.h.data.toList) d.h.data.toList ⟨rfl,by rw[b]⟩;rw[b] at g;exact g
 ·have e:fO d=kO++32::d.e.data.toList:=by simp[fO]
  rw[e,ec (by decide)];have g:=GW.non D (kO++32::d.e.data.toList) d.e.data.toList;rw[gB c] at g;exact g
 ·have e:eB d=jQ++32::(d.e.data.toList++32::(Lib.decDigits d.B.toNat++32::aJ d.h.data.toList)):=by simp[eB]
  have b:af 32 (d.e.data.toList++32::(Lib.decDigits d.B.toNat++32::aJ d.h.data.toList))=(d.e.data.toList,Lib.decDigits d.B.toNat++32::aJ d.h.data.toList,ZG):=ec c;have q:af 32 (Lib.decDigits d.B.toNat++32::aJ d.h.data.toList)=(Lib.decDigits d.B.toNat,aJ d.h.data.toList,ZG):=ec (uG _);rw[e,ec (by decide)];have g:=GW.K D (jQ++32::(d.e.data.toList++32::(Lib.decDigits d.B.toNat++32::aJ d.h.data.toList))) (d.e.data.toList++32::(Lib.decDigits d.B.toNat++32::aJ d.h.data.toList)) d.h.data.toList d.B (by unfold OkD;rw[p7 rfl,b,q];exact⟨rV f (by omega),rfl⟩) f y;rw[b] at g;exact g
 ·have e:doT x=wDo++32::aR x.op x.s.data.toList x.n:=by simp[doT]
  rw[e,ec (by decide)];have t:bA (aR x.op x.s.data.toList x.n)=T (x.op,x.s.data.toList,x.n):=lI ⟨by simpa using r,rfl⟩;have g:=GW.G D d (wDo++32::aR x.op x.s.data.toList x.n) _ _ t;exact g
 ·cases hk:l.ask with
  |true =>
   have e:dG l=jR++32::(l.e.data.toList++32::Lib.decDigits l.L.toNat):=by simp[dG,hk]
   have b:af 32 (l.e.data.toList++32::Lib.decDigits l.L.toNat)=(l.e.data.toList,Lib.decDigits l.L.toNat,ZG):=ec m;rw[e,ec (by decide)];have g:=GW.ask D d (jR++32::(l.e.data.toList++32::Lib.decDigits l.L.toNat)) (l.e.data.toList++32::Lib.decDigits l.L.toNat) l.L (by rw[b];exact rV f h4) f h4;rw[b] at g;have j:d.lkA l=d.lkA ⟨⟨l.e.data.toList.toArray⟩,ZG,ZA,l.L⟩:=by have h1:=p hk;clear e b g;obtain⟨nm,u,o,a0⟩:=l;simp only at hk h1;subst hk h1;rfl
   rw[j];exact g
  |false =>
   have e:dG l=jS++32::(l.e.data.toList++32::(if l.has=ZG then [49] else [48])):=by simp[dG,hk]
   have b:af 32 (l.e.data.toList++32::(if l.has=ZG then [49] else [48]))=(l.e.data.toList,(if l.has=ZG then [49] else [48]),ZG):=ec m;rw[e,ec (by decide)];have g:=GW.has D d (jS++32::(l.e.data.toList++32::(if l.has=ZG then [49] else [48]))) (l.e.data.toList++32::(if l.has=ZG then [49] else [48])) (by rw[b];show(32:UInt8) ∉ (if l.has=ZG then [49] else [48]);split<;>decide);rw[b] at g;have j:d.lkA l=d.lkA ⟨⟨l.e.data.toList.toArray⟩,ZA,(if l.has=ZG then ([49]:List UInt8) else [48]) == [49],0⟩:=by have h1:=hb hk;clear e b g;obtain⟨nm,u,o,a0⟩:=l;simp only at hk h1;subst hk h1;cases o<;>rfl
   rw[j];exact g
