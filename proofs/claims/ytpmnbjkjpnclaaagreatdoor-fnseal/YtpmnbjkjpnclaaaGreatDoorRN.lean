import Derived.Test.YtpmnbjkjpnclaaaGreatDoorSC
import Derived.RangeFuncNested
import Derived.RangeFuncBound
import Derived.RangeFuncCalls
import Derived.RangeFuncLeaves
import Derived.Shelf.Abstract
import Derived.Shelf.RegionOpen
import Derived.OwnWalkIn
import Derived.TacticsInMore
import Derived.LoopNIn
import Derived.LoopIn
import Derived.Sort.QuietIn
import Derived.Sort.BigQuietIn
import Derived.Sort.CutIn
import Derived.Test.YtpmnbjkjpnclaaaGreatDoorSE
import Derived.Maps.OwnSet
import Derived.Maps.Views
import Derived.StringKeys
set_option maxRecDepth 100000
set_option maxHeartbeats 4000000
set_option linter.unusedSimpArgs false
open Go renaming Addr.mk->Q,Value.slice->Z,Obj.cells->N,IntKind.i64->I,World->M,Value->ZC,TypeId->ZH,Ending.returned->ZF,World.heap->Y,World.alloc->A,Proofs.Tryz.prog->Pg
open Option renaming none->U,some->T
open Bool renaming false->ZA,true->ZG
open Array renaming size->J
namespace Go.Proofs.YtpmnbjkjpnclaaaGreatDoor.Vp
open Tryz RowKit
variable {n l b off cap n1 L ZQ i m:Nat}{W g:M}{f:Nat->Deed}{s:Nat->Bool}{ZL:ZH}{F:Fence}{P:Program}{R:Ending->M->Prop}{x:Nat × Nat}{c:List (Nat × Nat)}
theorem He{k:Nat}{D:DataW Unit}(b:Maps.IsMap D)(h:∀p,Maps.has D (.string (f p).e.data.toList)=!bc f p k)(d:DataW Unit):∀p,Maps.has (D.put (.string (f k).e.data.toList) d) (.string (f p).e.data.toList)=!bc f p (k+1):=by
 intro p;rw[bc,Bool.not_and,<-h p,Bool.not_not];by_cases e:(f p).e.data.toList=(f k).e.data.toList;{rw[e,Maps.has_put_same b (by simp[WideAt.IsKeyLit])];simp[BG,e]}
 ·rw[Maps.has_put_other (by simpa using e)];have:((f k).e.toList == (f p).e.toList)=ZA:=by simpa[BG] using λh=>e (by rw[h])
  rw[this];simp
theorem tD (b off n cap:Nat)(f:Nat->Deed)(w:M)(hn:(n:Int)<=400)(K:RowDeed w b off n f)(O:∀i,i<n->(f i).e.size<=maxLen):Calls Pg 149 #[.agg #[Z (T (Q b off U)) n cap]] w λe V=>e=ZF (.int I (aM (λp=>bc f p p) n))/\Below (J (Y w)) w V:=by
 have HF:=ae K;have HS:=ae O;clear K O;have R:=ae (((q9 w).alloc ly (N #[Z (T (Q b off U)) n cap] 37)).alloc (by simp) (.map #[] 0));have C:=ae (World.ownsMap_made (A w (N #[Z (T (Q b off U)) n cap] 37)) Pg 9 (plainElem (H:=Unit) Pg 3));have hz:(A w (N #[Z (T (Q b off U)) n cap] 37)).heap.size=J (Y w)+1:=by simp
 rw[hz] at C;clear hz;obtain⟨r,ZP⟩:∃r,r=aM (λp=>bc f p p) n:=⟨_,rfl⟩
 rw[<-ZP];have ZQ:=ae ZP;clear ZP;have S:=@run_makeMap Pg;go_enter func149,ntmps149;go_wp2;clear S;generalize World.alloc (World.alloc w _) _=W at R C ⊢;obtain⟨o,ZR⟩:∃o,o=J (Y w)+1:=⟨_,rfl⟩
 rw[<-ZR] at C ⊢;have ZL:=ae ZR;clear ZR;go_loopw [12] (λi wr=>∃(k:Nat) (D:DataW Unit),k<=n/\i=.int I k/\Hid (∀j,j<k->bc f j j=ZG)/\Hid (wr.ownsMap Pg 9 (plainElem (H:=Unit) Pg 3) o k D)/\Hid (∀p,Maps.has D (.string (f p).e.data.toList)=!bc f p k)/\Hid (Below (J (Y w)) w wr)) (λi _=>n - (intOf i).toNat);case atStart=>exact⟨0,_,by omega,rfl,λj ZO=>absurd ZO (PK _),C,λp=>rfl,R⟩
 case round =>
  obtain⟨k,D,hk,rfl,G,B,ZJ,h⟩:=hrel;by_cases y:k<n
  ·obtain⟨p0,p1,p2,p3,⟨a0,s,p4,ZK⟩,⟨a1,q,p5,ZI⟩⟩:=(HF.aa h ly).2 k y;clear ZK ZI;have x:=WideMaps.keyOf_string_mk (P:=Pg) (k:=9) F3 (HS k y);have l:=ae x;have F:=ae (ZJ k);clear x;cases hnew:bc f k k with
   |false =>
    have t:Maps.has D (.string (f k).e.data.toList)=ZG:=by rw[F.out,hnew];rfl
    have HHS:=ae t;obtain rfl:r=k:=by rw[ZQ.out];exact fP y hnew G
    clear hnew;have ZN:=ae (h.alloc h.size (N #[.string (f k).e,.int I (f k).m,.int I (f k).E,.string (f k).B,Z a0 (f k).f s,Z a1 (f k).b q] 46));go_wp2_with (at_lookup;refine wpList_lookup_own_ok_int _ rfl _ _ 281 rfl 9 3 I (Maps.string_keyed F3) WQ PD (QJ _) o k D rfl (B.alloc _) _ _ rfl l ?_;intro c u z;clear u z);go_ret;exact⟨rfl,ZN⟩
   |true =>
    have t:Maps.has D (.string (f k).e.data.toList)=ZA:=by rw[F.out,hnew];rfl
    have L:=ae hnew;clear hnew;have E:(Lit.int I (k:Int)).wf=ZG:=by simp only[Lit.wf,IntKind.min,IntKind.max,IntKind.signed,IntKind.bits,z8,AI,if_true];omega
    have ZM:=ae E;clear E
    go_wp2_with (first
     |(at_lookup;refine wpList_lookup_own_ok_int _ rfl _ _ 281 rfl 9 3 I (Maps.string_keyed F3) WQ PD (QJ _) o k D rfl (B.alloc _) _ _ rfl l ?_;intro c u z;clear u z)
     |(at_mapUpdate;refine wpList_mapUpdate_own _ rfl _ _ _ 281 rfl 9 3 (Maps.string_keyed F3) WQ _ o k D rfl (B.alloc _) (by unfold maxLen;omega) _ _ _ rfl rfl l _ [] (plainElem_int PD ZM) ?_;intro w1 m g;have X:=ae m;have ZN:=ae (bg (h.alloc h.size (N #[.string (f k).e,.int I (f k).m,.int I (f k).E,.string (f k).B,Z a0 (f k).f s,Z a1 (f k).b q] 46)) g (by have:=h.size;simp;omega) (λj e=>by cases e;have:=ZL.out;omega));clear m g))
    exact⟨⟨k+1,_,by omega,by go_num,λj ZO=>by
     by_cases e:j=k;{subst e;exact L}
     ·exact G j (by omega),X,He B.isMap ZJ _,ZN⟩,by simp[intOf];omega⟩
  ·have e:n=k:=by omega
   subst e;obtain rfl:r=-1:=by rw[ZQ.out];exact fD G
   go_wp2;go_ret;exact⟨rfl,h⟩
open Go.Shelf Ca
attribute [local go_sem] TH
structure LSt (w0 W:M)(n1 b off n cap L ZQ l:Nat)(s:Nat->Bool):Prop where
 c0:W.cell? (Q L 0 U)=T (Z (T (Q b off U)) n cap)
 c1:W.cell? (Q L 1 U)=T (Z (T (Q ZQ 0 U)) n n)
 c2:W.cell? (Q L 2 U)=T (.func (.yield l) #[] #[])
 row:∀q,q<n->W.cell? (Q ZQ q U)=T (.bool (s q))/\W.frozen? (Q ZQ q U)=ZA
 low:Below (J (Y w0)) w0 W
 hL:n1<=L/\L<J (Y W)
 hM:n1<=ZQ/\ZQ<J (Y W)
 ne:L≠ZQ
 hb:J (Y w0)<=n1
 tyM:OfTy W ZQ 4
 tyL:OfTy W L 246
theorem LSt.blocks{f:M}(h:LSt g W n1 b off n cap L ZQ l s)(hz:J (Y W)<=J (Y f))(m:f.heap[L]?=W.heap[L]?)(i:f.heap[ZQ]?=W.heap[ZQ]?)(p:Below (J (Y g)) g f):LSt g f n1 b off n cap L ZQ l s:=by have c:∀o,f.cell? (Q L o U)=W.cell? (Q L o U):=λo=>cq (a:=(Q L o U)) m;exact⟨(c 0).trans h.c0,(c 1).trans h.c1,(c 2).trans h.c2,λq j=>⟨(cq (a:=(Q ZQ q U)) i).trans (h.row q j).1,(JN (a:=(Q ZQ q U)) i).trans (h.row q j).2⟩,p,⟨h.hL.1,lj h.hL.2 hz⟩,⟨h.hM.1,lj h.hM.2 hz⟩,h.ne,h.hb,h.tyM.eq i,h.tyL.eq m⟩
theorem LSt.aa{f c:M}(h:LSt f W n1 b off n cap L ZQ l s)(hb:Below (J (Y W)) W c):LSt f c n1 b off n cap L ZQ l s :=
 h.blocks hb.size (hb.block L h.hL.2) (hb.block ZQ h.hM.2) (h.low.trans (hb.mono h.low.size))
theorem LSt.upd{f i:M}(g:ZL≠4/\ZL≠246)(h:LSt f W n1 b off n cap L ZQ l s)(c:Upd2 ZL (J (Y f)) n1 W i):LSt f i n1 b off n cap L ZQ l s :=
 h.blocks c.size (c.block L h.hL.2 (.inr ⟨h.hL.1,h.tyL.ne g.2⟩)) (c.block ZQ h.hM.2 (.inr ⟨h.hM.1,h.tyM.ne g.1⟩)) (h.low.trans (c.aa h.low.size))
theorem LSt.set{p:Nat}(h:LSt g W n1 b off n cap L ZQ l s)(hp:p<n):LSt g (W.setCell (Q ZQ p U) (.bool ZG)) n1 b off n cap L ZQ l (put s p):=by
 have c:∀o,(W.setCell (Q ZQ p U) (.bool ZG)).cell? (Q L o U)=W.cell? (Q L o U):=λo=>sq _ _ _ _ (by simp;exact λe=>absurd e.symm h.ne);refine⟨(c 0).trans h.c0,(c 1).trans h.c1,(c 2).trans h.c2,λq f=>⟨?_,by simpa using(h.row q f).2⟩,h.low.setCell (by have:=h.hM.1;have:=h.hb;show _<=ZQ;omega) _,by simpa using h.hL,by simpa using h.hM,h.ne,h.hb,h.tyM.set _ _,h.tyL.set _ _⟩;by_cases e:q=p;{subst e;rw[CX _ _ _ (by rw[(h.row q f).1];rfl)];simp[put]};{rw[sq _ _ _ _ (by simp),(h.row q f).1];simp[put,e]}
theorem pY{b:Nat->Nat->(Nat->Bool)->(Nat->Bool) × List (Nat × Nat)}{x:Deed}{d:Nat}(h:i<=m):(lks b x d s i).2 <+: (lks b x d s m).2:=by
 induction m with
 |zero =>
  obtain rfl:i=0:=by omega
  exact V5
 |succ k c =>
  by_cases e:i=k+1;{subst e;exact V5};{refine(c (by omega)).trans ?_;rw[lks];split;{exact WS _ _};{exact V5}}
theorem Hf (hT:ZL≠4/\ZL≠246)(ZO:M)(n1 b off n cap L ZQ l:Nat)(F:List (Nat × Nat))(f:Nat->Deed)(ZN ZK:List (Nat × Nat)->M->Prop)(hA:gj f n)(hn:(n:Int)<=400)(hf:RowDeed ZO b off n f)(sm:∀p,p<n->(f p).b<=200)
  (hJ:∀s ZR C,ZN s ZR->Itr 4 n1 ZR C->ZN s C) (mv:∀s ZR C,ZK s ZR->Itr 4 n1 ZR C->ZK s C)
  (hY:∀m c (x:Nat × Nat) W,x.1<n->ZN c W->c++[x] <+: F->n1<=J (Y W)->YieldAt Fence.wide m Pg l #[.int I (x.1:Int),.int I (x.2:Int)] W λe B =>
   (e=ZF (.bool ZG)/\ZN (c++[x]) B/\Upd2 ZL (J (Y ZO)) n1 W B)∨(e=ZF (.bool ZA)/\ZK (c++[x]) B)) :
  ∀(k p d:Nat) (s:Nat->Bool) (c:List (Nat × Nat)) (W:M) (G:Nat),p<k->p<n->d+p<=1000->LSt ZO W n1 b off n cap L ZQ l s->s p=ZA->ZN c W->c++(lst f k p d s).2 <+: F ->
   CallsIn Fence.wide G Pg 172 #[.pointer (T (Q L 0 U)),.int I (p:Int),.int I (d:Int)] W λe B =>(e=ZF (.bool ZG)/\ZN (c++(lst f k p d s).2) B/\LSt ZO B n1 b off n cap L ZQ l (lst f k p d s).1)∨(e=ZF (.bool ZA)/\∃q,q <+: (lst f k p d s).2/\ZK (c++q) B):=by
 intro k;induction k with
 |zero=>intro p d s c W G h;omega
 |succ k ih =>
  intro p d s c W G hpk E hdp hS hs ph hN;have HS:=ae hS;have DE:=ae ph;have HN:=ae hN;have DQ:=ae ih;have HY:=ae hY;have HJ:=ae hJ;have HJx:=ae mv;have HA:=ae hA;have HF:=ae hf;obtain⟨_,_,_,_,_,⟨a1,cap1,th,q5⟩⟩:=hf.2 p E;have p5:=(hS.low.cell (p:=(Q b (off+p*6+5) U)) hf.1).trans th;obtain⟨m,hm⟩:∃m,m=(f p).b:=⟨_,rfl⟩
  have hm2:m<=200:=by rw[hm];exact sm p E
  rw[<-hm] at p5 q5;have HL:=ae q5;have HM:=ae hm;have e0:=hS.c0;obtain⟨K,hK⟩:∃K,K=lks (lst f k) (f p) d s:=⟨_,rfl⟩
  have H:Hid (lst f (k+1) p d s=(put (K m).1 p,(K m).2++[(p,d)])):=by rw[hK,hm];rfl
  have qr:Hid (K 0=(s,[])):=by rw[hK];rfl
  have DS:Hid (∀j,K (j+1)=if ((f p).D j).ask=ZG/\(K j).1 ((f p).D j).L.toNat=ZA then ((lst f k ((f p).D j).L.toNat (d+1) (K j).1).1,(K j).2++(lst f k ((f p).D j).L.toNat (d+1) (K j).1).2) else K j):=λj=>by rw[hK];rfl
  have At:Hid (∀i,i<=m->(K i).2 <+: (K m).2):=λi hi=>by rw[hK];exact pY hi
  clear hS ph hN ih hY hJ mv hA hf q5 hm sm th hK;refine VU func172 rfl trivial ?_ rfl;simp only[ntmps172,CV,eL,nX,Nat.reduceAdd,Nat.reduceSub,P7,P9,QU,QE,LN,IN];gi_wp2;clear e0 p5;gi_loopw [18] (λi wr=>∃j:Nat,j<=m/\i=.int I j/\Hid (LSt ZO wr n1 b off n cap L ZQ l (K j).1)/\Hid (ZN (c++(K j).2) wr)) (λi _=>m - (intOf i).toNat);case atStart=>exact⟨0,by omega,rfl,by rw[qr.out];exact HS,by rw[qr.out,V8];exact DE⟩
  case round =>
   obtain⟨j,hj,rfl,o,ro⟩:=hrel;by_cases Fk:j<m
   ·obtain⟨lb,lo,rfl,ZI⟩:=(HL.aa o.low ly).resolve_left (by omega);obtain⟨d0,d1,d2,d3⟩:=ZI.2 j Fk;clear ZI;have ZM:=DS.out j;have bt:=HA.out p E j (by have:=HM.out;omega);generalize (f p).D j=x at d0 d1 d2 d3 ZM bt;have aq:=ae ZM;clear ZM;have D:=ae (o.aa (br.alloc ly (N #[.string x.e,.bool x.ask,.bool x.has,.int I x.L] 91)));have J1:=ae (HJ _ _ _ ro (Itr.u ((q9 wr).alloc ly (N #[.string x.e,.bool x.ask,.bool x.has,.int I x.L] 91)) ly (by have:=o.hL;omega)));have e1:(A wr (N #[.string x.e,.bool x.ask,.bool x.has,.int I x.L] 91)).cell? (Q (J (Y wr)) 1 U)=T (.bool x.ask):=by simp
    have e3:(A wr (N #[.string x.e,.bool x.ask,.bool x.has,.int I x.L] 91)).cell? (Q (J (Y wr)) 3 U)=T (.int I x.L):=by simp
    have ur:=ae bt;clear bt;gi_upto_region 4 with fail;clear d0 d1 d2 d3;generalize World.alloc wr _=u at D J1 e1 e3 ⊢;generalize (J (Y wr))=X at e1 e3 ⊢;cases hask:x.ask with
    |false =>
     have g:K (j+1)=K j:=by rw[aq.out,gM (by rw[hask];simp)]
     have t:=ae g;clear g;rw[hask] at e1;have Fd:∀f,Fence.wide.fn f=True:=λ_=>rfl;gi_quiet (fail);have O:=ae (D.aa (BM (q9 u) nq));have V:=ae (HJ _ _ _ J1 (Itr.u (BM (q9 u) nq) ly (by have:=D.hL;omega)));gi_wp2;exact⟨⟨j+1,by omega,by go_num,by rw[t.out];exact O,by rw[t.out];exact V⟩,by simp[intOf];omega⟩
    |true =>
     obtain⟨q,ZJ⟩:∃q:Nat,x.L=(q:Int):=⟨x.L.toNat,by have:=(ur hask).2;omega⟩
     have hqp:q<p:=by have:=(ur hask).1;rw[ZJ] at this;simpa using this
     rw[ZJ] at e3;rw[hask] at e1;have f1:=D.c1;obtain⟨f2,_⟩:=D.row q (by omega);have hq0:(0:Int)<=q:=by omega
     have hqn:(q:Int)<n:=by omega
     have Fd:∀f,Fence.wide.fn f=True:=λ_=>rfl;cases hl:(K j).1 q with
     |true =>
      have g:K (j+1)=K j:=by rw[aq.out,gM (by rw[ZJ];simp[hl])]
      have t:=ae g;clear g;rw[hl] at f2;gi_quiet (fail);have O:=ae (D.aa (BM (q9 u) nq));have V:=ae (HJ _ _ _ J1 (Itr.u (BM (q9 u) nq) ly (by have:=D.hL;omega)));gi_wp2;exact⟨⟨j+1,by omega,by go_num,by rw[t.out];exact O,by rw[t.out];exact V⟩,by simp[intOf];omega⟩
     |false =>
      have g:K (j+1)=((lst f k q (d+1) (K j).1).1,(K j).2++(lst f k q (d+1) (K j).1).2):=by rw[aq.out,p6 ⟨hask,by rw[ZJ];simpa using hl⟩,ZJ];simp
      have t:=ae g;have P:=At.out (j+1) (by omega);rw[g] at P;have fd:=ae P;have dg:((d+1:Nat):Int)=(d:Int)+1:=by omega
      have HC:Hid (∀S G,LSt ZO S n1 b off n cap L ZQ l (K j).1->ZN (c++(K j).2) S->CallsIn Fence.wide G Pg 172 #[.pointer (T (Q L 0 U)),.int I (q:Int),.int I ((d:Int)+1)] S λe B =>
        ∃r:Bool,e=ZF (.bool r)/\Hid ((r=ZG/\ZN (c++(K (j+1)).2) B/\LSt ZO B n1 b off n cap L ZQ l (K (j+1)).1)∨(r=ZA/\∃q,q <+: (K m).2++[(p,d)]/\ZK (c++q) B))):=by
       intro S G h1 h2;have ZP:(c++(K j).2)++(lst f k q (d+1) (K j).1).2 <+: F:=by have h3:=HN.out;rw[H.out] at h3;obtain⟨z,hz⟩:=h3;obtain⟨y,R⟩:=fd.out;exact⟨y++[(p,d)]++z,by rw[<-hz];simp only[];rw[<-R];simp⟩
       have h:=DQ.out q (d+1) (K j).1 (c++(K j).2) S G (by omega) (by omega) (by omega) h1 hl h2 ZP;rw[dg] at h;refine h.mono λe B h=>?_;rcases h with ⟨he,hj,hs⟩|⟨he,q',Bk,hx⟩
       ·exact⟨ZG,he,.inl ⟨rfl,by rw[t.out,<-ON];exact hj,by rw[t.out];exact hs⟩⟩
       ·refine⟨ZA,he,.inr ⟨rfl,(K j).2++q',?_,by rw[<-ON];exact hx⟩⟩
        obtain⟨z,hz⟩:=Bk;obtain⟨y,R⟩:=fd.out;exact⟨z++y++[(p,d)],by rw[<-R,<-hz];simp⟩
      have Fn:=ae (D.aa ((q9 u).drew));have DH:=ae (HJ _ _ _ J1 (Itr.u (q9 u).drew ly (by have:=D.hL;omega)));have hwr:IntKind.i64.wrap ((d:Int)+1)=(d:Int)+1:=by rw[p9];omega
      clear g P;rw[hl] at f2;gi_region_with ((try refine⟨λh=>(by cases h),?_⟩);gi_at_call 172;refine(HC _ _ ?_ ?_).mono ?_;(first|exact Fn|exact D);(first|exact DH|exact J1);rintro e W3 ⟨r,rfl,H3⟩);all_goals
       cases r with
       |true =>have h3:=H3.resolve_right (λh=>by cases h.1);have S3:=ae h3.2.2;have J3:=ae h3.2.1;clear h3 H3;gi_wp2;exact⟨⟨j+1,by omega,by go_num,S3,J3⟩,by simp[intOf];omega⟩
       |false =>have h3:=H3.resolve_left (λh=>by cases h.1);have X3:=ae h3.2;clear h3 H3;gi_wp2;go_ret;rw[H.out];exact .inr ⟨rfl,X3⟩
   ·have e:m=j:=by omega
    subst e;have O:=ae (o.set E);have V:=ae (HJ _ _ _ ro (Itr.setCell wr (p:=(Q ZQ p U)) o.hM.1 o.tyM (.bool ZG)));have ZP:(c++(K m).2)++[(p,d)] <+: F:=by have h3:=HN.out;rw[H.out] at h3;simpa using h3
    have Fm:=HY.out (G - 1) (c++(K m).2) (p,d) _ E V ZP (by have:=o.hL;simp;omega);obtain⟨fn,tmps,assign,body,R,hR⟩:=Fm;dsimp only at R;have HR:=ae hR;clear hR;have g1:=o.c1;obtain⟨g3,g4⟩:=o.row p E;have g2:=O.c2;have hp0:(0:Int)<=p:=by omega
    have hpn':(p:Int)<n:=by omega
    gi_wp2;refine⟨λh=>(by cases h),HR.mono ?_⟩;rintro e W3 (⟨rfl,n9,ld⟩|⟨rfl,la⟩);{have J3:=ae n9;have S3:=ae (O.upd hT ld);clear n9 ld;gi_wp2;go_ret;rw[H.out];exact .inl ⟨rfl,by rw[<-ON];exact J3,S3⟩};{have X3:=ae la;clear la;gi_wp2;go_ret;rw[H.out];exact .inr ⟨rfl,_,V5,by rw[<-ON];exact X3⟩}
attribute [local go_sem] TH
theorem Es (i:F.depth=U){f:FuncId}{tmps:Array ZC}{assign body:Code}{w:M}
  (h:RoundIn F m P l f tmps assign body w R):RoundIn F b P l f tmps assign body w R:=⟨h.1,λc g _=>h.2 c g (λd h=>by rw[i] at h;cases h)⟩
theorem Et (f:F.depth=U)(c:Nat){args:Array ZC}(h:YieldAt F m P l args W R):YieldAt F c P l args W R:=by obtain⟨fn,tmps,assign,body,b,hR⟩:=h;exact⟨fn,tmps,assign,body,b,Es f hR⟩
theorem Eu:(Pg.info? 4).map (λi=>(i.zero,i.size,i.bytes))=T (T (.bool ZA),1,1):=by kernel_rfl
def bo (n:Nat):Array ZC:=madeCells (Value.bool ZA).cells n
theorem Bu (n:Nat)(hn:n<=1048576)(w:M):(Instr.makeSlice 106 (.int I (n:Int)) (.int I (n:Int))).run Pg w=.ok (Z (T (Q (J (Y w)) 0 U)) n n) (w.alloc (N (bo n) 4)):=by obtain⟨i,hi,hz⟩:=OB.1 Eu;simp only[LK] at hz;obtain⟨h1,h2,h3⟩:=hz;have h:=run_make (P:=Pg) w 106 4 i _ underlying106 hi h1 I I n n (by omega) (Int.le_refl _) (by rw[h3];omega) (by omega);rw[h2] at h;simpa[bo] using h
theorem uB (n q:Nat)(h:q<n):(bo n)[q]?=T (.bool ZA):=by unfold bo madeCells;simp[Value.cells,h,Nat.mod_one]
theorem pZ (W:M)(n q:Nat)(h:q<n):(W.alloc (N (bo n) 4)).cell? (Q (J (Y W)) q U)=T (.bool ZA)/\(W.alloc (N (bo n) 4)).frozen? (Q (J (Y W)) q U)=ZA:=by
 have e:=nL W (N (bo n) 4);refine⟨?_,?_⟩;{rw[cell_of_row _ _ _ _ _ _ e];exact uB n q h};{unfold World.frozen?;rw[e];simp}
theorem Ev{f:M}(c:Below (J (Y f)) f W):LSt f ((W.alloc (N (bo n) 4)).alloc (N #[Z (T (Q b off U)) n cap,Z (T (Q (J (Y W)) 0 U)) n n,.func (.yield l) #[] #[]] 246)).drew (J (Y W)) b off n cap (J (Y W)+1) (J (Y W)) l (λ_=>ZA):=by
 have hz:(W.alloc (N (bo n) 4)).heap.size=J (Y W)+1:=by simp
 have D:Below (J (Y W)+1) (W.alloc (N (bo n) 4)) ((W.alloc (N (bo n) 4)).alloc (N #[Z (T (Q b off U)) n cap,Z (T (Q (J (Y W)) 0 U)) n n,.func (.yield l) #[] #[]] 246)).drew:=(br.alloc (by omega) _).drew;refine⟨?_,?_,?_,λq g=>?_,((c.alloc c.size _).alloc (by simp;have:=c.size;omega) _).drew,by simp,by simp;omega,by omega,c.size,?_,?_⟩;{simp};{simp};{simp};{exact⟨(D.cell (p:=(Q (J (Y W)) q U)) (AP _)).trans (pZ W n q g).1,(D.frozen (p:=(Q (J (Y W)) q U)) (AP _)).trans (pZ W n q g).2⟩};{exact(OfTy.new W _ _).eq (D.block _ (AP _))};{have h:=OfTy.new (W.alloc (N (bo n) 4)) #[Z (T (Q b off U)) n cap,Z (T (Q (J (Y W)) 0 U)) n n,.func (.yield l) #[] #[]] 246;rw[hz] at h;exact h.eq rfl}
theorem Ew{f:M}(c:Below (J (Y f)) f W):LSt f ((A W (N #[Z (T (Q b off U)) n cap,Z (T (Q (J (Y W)+1) 0 U)) n n,.func (.yield l) #[] #[]] 246)).alloc (N (bo n) 4)).drew (J (Y W)) b off n cap (J (Y W)) (J (Y W)+1) l (λ_=>ZA):=by
 have hz:(A W (N #[Z (T (Q b off U)) n cap,Z (T (Q (J (Y W)+1) 0 U)) n n,.func (.yield l) #[] #[]] 246)).heap.size=J (Y W)+1:=by simp
 have D:Below (J (Y W)+1) (A W (N #[Z (T (Q b off U)) n cap,Z (T (Q (J (Y W)+1) 0 U)) n n,.func (.yield l) #[] #[]] 246)) ((A W (N #[Z (T (Q b off U)) n cap,Z (T (Q (J (Y W)+1) 0 U)) n n,.func (.yield l) #[] #[]] 246)).alloc (N (bo n) 4)).drew:=(br.alloc (by omega) _).drew;refine⟨(D.cell (p:=(Q (J (Y W)) 0 U)) (AP _)).trans (by simp),(D.cell (p:=(Q (J (Y W)) 1 U)) (AP _)).trans (by simp),(D.cell (p:=(Q (J (Y W)) 2 U)) (AP _)).trans (by simp),λq g=>?_,((c.alloc c.size _).alloc (by simp;have:=c.size;omega) _).drew,by simp;omega,by simp,by omega,c.size,?_,?_⟩;{have h:=pZ (A W (N #[Z (T (Q b off U)) n cap,Z (T (Q (J (Y W)+1) 0 U)) n n,.func (.yield l) #[] #[]] 246)) n q g;rw[hz] at h;exact h};{have h:=OfTy.new (A W (N #[Z (T (Q b off U)) n cap,Z (T (Q (J (Y W)+1) 0 U)) n n,.func (.yield l) #[] #[]] 246)) (bo n) 4;rw[hz] at h;exact h.eq rfl};{exact(OfTy.new W _ _).eq (D.block _ (AP _))}
theorem qb (v:ZC)(w:M)(b:Nat):CallsIn Fence.wide b Pg 117 #[.agg #[v]] w λe c=>e=ZF (.func (.func 171) #[] #[.pointer (T (Q (J (Y w)) 0 U))])/\c=A w (N #[v] 37):=by refine VU func117 rfl trivial ?_ rfl;simp only[ntmps117,CV,eL,nX,Nat.reduceAdd,Nat.reduceSub,P7,P9,QU,QE,LN,IN];gi_wp2;go_ret;exact⟨rfl,rfl⟩
theorem uC (hT:ZL≠4/\ZL≠246)(i:M)(b off n cap s ZR:Nat)(f:Nat->Deed)(w:M)(hA:gj f n)(hn1:1<=n)(hn:(n:Int)<=400)(S:RowDeed i b off n f)(K:∀p,p<n->(f p).b<=200)(o:Below (J (Y i)) i w)(D:w.cell? (Q s 0 U)=T (Z (T (Q b off U)) n cap))(z:s<J (Y w)):SeqT2 ZL 4 Fence.wide ZR Pg 171 #[.pointer (T (Q s 0 U))] (λx:Nat × Nat=>#[Value.int I (x.1:Int),Value.int I (x.2:Int)]) (λc x=>x.1<n/\c++[x] <+: aC f n) (J (Y i)) (λg=>g=aC f n) (λc=>c <+: aC f n) w:=by
 intro l ZN O W B hJ F hY C;have ZK:=Hf hT i (J (Y W)) b off n cap;have ZP:=ae ZK;clear ZK;have hB:=(B.cell (p:=(Q s 0 U)) z).trans D;have V:=λw=>Bu n (by omega) w;have hwb:IntKind.i64.wrap ((n:Int) - 1)=(n:Int) - 1:=by rw[p9];omega
 have P:=ae hJ;have G:=ae F;have X:=ae hY;have H0:=ae C;have HA:=ae hA;have HF:=ae S;have E:=ae K;have j:=ae (o.trans (B.mono o.size));have aq:s<J (Y W):=lj z B.size;clear hJ F hY C hA S K o B D z;refine VU func171 rfl trivial ?_ rfl;simp only[ntmps171,CV,eL,nX,Nat.reduceAdd,Nat.reduceSub,P7,P9,QU,QE,LN,IN];have H:∀L ZQ u,LSt i u (J (Y W)) b off n cap L ZQ l (λ_=>ZA)->Below (J (Y W)) W u->CallsIn Fence.wide (ZR - 1) Pg 172 #[.pointer (T (Q L 0 U)),.int I ((n:Int) - 1),.int I 0] u λe t =>
   ∃r:Bool,e=ZF (.bool r)/\Hid ((∃g,g=aC f n/\ZN g t)∨(∃c,c <+: aC f n/\O c t)):=by
  intro L ZQ u ZM ZI;have h:=ZP.out L ZQ l (aC f n) f ZN O HA hn HF E P G (λm c x W1 C h1 h2 h3=>Et rfl m (X c x W1 ⟨C,h2⟩ h1 h3)) n (n - 1) 0 (λ_=>ZA) [] u (ZR - 1) (by omega) (by omega) (by omega) ZM rfl (P _ _ _ H0 (Itr.u ZI ly  ly)) (by simp[aC]);rw[show((n - 1:Nat):Int)=(n:Int) - 1 by omega] at h;refine h.mono λe t h=>?_;rcases h with ⟨ZO,hj,_⟩|⟨ZO,q,hq,hx⟩
  ·exact⟨ZG,ZO,.inl ⟨_,rfl,by simpa[aC] using hj⟩⟩
  ·exact⟨ZA,ZO,.inr ⟨q,hq,by simpa using hx⟩⟩
 have y:=ae H;have D1:=ae (((q9 W).alloc ly (N (bo n) 4)).alloc (by simp) (N #[Z (T (Q b off U)) n cap,Z (T (Q (J (Y W)) 0 U)) n n,.func (.yield l) #[] #[]] 246)).drew;have D2:=ae (((q9 W).alloc ly (N #[Z (T (Q b off U)) n cap,Z (T (Q (J (Y W)+1) 0 U)) n n,.func (.yield l) #[] #[]] 246)).alloc (by simp) (N (bo n) 4)).drew;have hfw:∀f,Fence.wide.fn f=True:=λ_=>rfl;clear H ZP P G X H0 HA HF E;gi_upto_region 0 with fail;gi_cut [3] from 4 (λs3 wx=>∃L,s3=.pointer (T (Q L 0 U))/\Hid (∃ZQ,LSt i wx (J (Y W)) b off n cap L ZQ l (λ_=>ZA))/\Hid (Below (J (Y W)) W wx));case first =>
  have hsf:=λ(w:M) (a:Addr) (m:Mode)=>run_store Pg w a (.func (.yield l) #[] #[]) m rfl;gi_region_with fail;all_goals
   gi_wp2_with fail;gi_meet;first
    |exact⟨J (Y W)+1,rfl,⟨J (Y W),Ev j⟩,D1⟩
    |exact⟨J (Y W),rfl,⟨J (Y W)+1,Ew j⟩,D2⟩
 case rest =>
 obtain⟨L,rfl,ZJ,R⟩:=hcut;have hB1:=(R.cell (p:=(Q s 0 U)) aq).trans hB;have HC:Hid (CallsIn Fence.wide (ZR - 1) Pg 172 #[.pointer (T (Q L 0 U)),.int I ((n:Int) - 1),.int I 0] wc λe t=>∃r:Bool,e=ZF (.bool r)/\Hid ((∃g,g=aC f n/\ZN g t)∨(∃c,c <+: aC f n/\O c t))):=by obtain⟨ZQ,ZM⟩:=ZJ.out;exact y L ZQ wc ZM R
 clear y ZJ V R j D1 D2 hB;gi_wp2_with ((try refine⟨λh=>(by cases h),?_⟩);gi_at_call 172;refine HC.mono ?_;rintro e W3 ⟨r,rfl,H3⟩);go_end0;exact⟨⟨_,rfl⟩,H3⟩
theorem ox (c:M)(b off n cap g l:Nat)(f:Nat->Deed)(w:M)(s:gj f n)(hn1:1<=n)(hn:(n:Int)<=400)(r:RowDeed c b off n f)(q:∀p,p<n->(f p).b<=200)(j:Below (J (Y c)) c w)(o:w.cell? (Q g 0 U)=T (Z (T (Q b off U)) n cap))(m:g<J (Y w)):DG Fence.wide l Pg 171 #[.pointer (T (Q g 0 U))] (λx:Nat × Nat=>#[Value.int I (x.1:Int),Value.int I (x.2:Int)]) (λx=>x.1<n) (J (Y c)) (λt=>t=aC f n) (λi=>i <+: aC f n) (aC f n).length w :=
 (uC (ZL:=46) ⟨by decide,by decide⟩ c b off n cap g l f w s hn1 hn r q j o m).plain λi x h=>⟨h.1,by have:=h.2.length_le;simp at this;omega⟩
attribute [local go_sem] TH
theorem qd{b:List (Nat × Nat)}(h:bA i b=-1):bA i (b++[x])=if x.1=i+b.length then -1 else ((i+b.length:Nat):Int):=by
 induction b generalizing i with
 |nil=>simp[bA]
 |cons y c f =>
  simp only[bA,IN] at h ⊢;split at h
  ·rename_i e;rw[p6 e,f h];simp only[eL];have:i+1+c.length=i+(c.length+1):=by omega
   rw[this]
  {omega}
theorem uD{b:List (Nat × Nat)}(g:b <+: c)(h:bA i b≠-1):bA i c=bA i b:=by
 induction b generalizing i c with
 |nil=>exact absurd rfl h
 |cons y ys f =>
  obtain⟨t,rfl⟩:=g;simp only[bA,IN] at h ⊢;split;{rename_i e;rw[p6 e] at h;exact f (WS _ _) h};{rfl}
theorem wY{b:List (Nat × Nat)}(h:aZ f b=-1):aZ f (b++[x])=if (f x.1).m=3/\60<=x.2 then (x.1:Int) else -1:=by
 induction b with
 |nil=>simp[aZ]
 |cons y ys c =>
  simp only[aZ,IN] at h ⊢;split at h;{omega};{rename_i e;rw[gM e,c h]}
theorem tE{b:List (Nat × Nat)}(i:b <+: c)(h:aZ f b≠-1):aZ f c=aZ f b:=by
 induction b generalizing c with
 |nil=>exact absurd rfl h
 |cons y ys g =>
  obtain⟨t,rfl⟩:=i;simp only[aZ,IN] at h ⊢;split;{rfl};{rename_i e;rw[gM e] at h;exact g (WS _ _) h}
structure JX (W:M)(h:Nat)(v:ZC):Prop where
 size:J (Y W)=h+4
 r:W.cell? (Q (h+1) 0 U)=T (.int I 0)/\W.frozen? (Q (h+1) 0 U)=ZA
 t:W.cell? (Q (h+1+1) 0 U)=T (.int I 0)/\W.frozen? (Q (h+1+1) 0 U)=ZA
 a:W.cell? (Q (h+1+1+1) 0 U)=T v
 a0:W.cell? (Q h 0 U)=T v
theorem zu (w:M)(v:ZC)(t u:ZH):JX ((((A w (N #[v] t)).alloc (N #[.int I 0] u)).alloc (N #[.int I 0] u)).alloc (N #[v] t)) (J (Y w)) v:=by
 have c:(A w (N #[v] t)).heap.size=J (Y w)+1:=by simp
 have b:((A w (N #[v] t)).alloc (N #[.int I 0] u)).heap.size=J (Y w)+1+1:=by simp
 have f:(((A w (N #[v] t)).alloc (N #[.int I 0] u)).alloc (N #[.int I 0] u)).heap.size=J (Y w)+1+1+1:=by simp
 have i:Below (J (Y w)+1) (A w (N #[v] t)) ((((A w (N #[v] t)).alloc (N #[.int I 0] u)).alloc (N #[.int I 0] u)).alloc (N #[v] t)):=((br.alloc (by omega) _).alloc (by omega) _).alloc (by omega) _;have g:Below (J (Y w)+1+1) ((A w (N #[v] t)).alloc (N #[.int I 0] u)) ((((A w (N #[v] t)).alloc (N #[.int I 0] u)).alloc (N #[.int I 0] u)).alloc (N #[v] t)):=(br.alloc (by omega) _).alloc (by omega) _;have h:Below (J (Y w)+1+1+1) (((A w (N #[v] t)).alloc (N #[.int I 0] u)).alloc (N #[.int I 0] u)) ((((A w (N #[v] t)).alloc (N #[.int I 0] u)).alloc (N #[.int I 0] u)).alloc (N #[v] t)):=br.alloc (by omega) _;refine⟨by simp,⟨?_,?_⟩,⟨?_,?_⟩,?_,(i.cell (p:=(Q (J (Y w)) 0 U)) (AP _)).trans (by simp)⟩;{refine(g.cell (p:=(Q (J (Y w)+1) 0 U)) (AP _)).trans ?_;rw[<-c];clear i g h c b f;generalize A w (N #[v] t)=W;simp};{refine(g.frozen (p:=(Q (J (Y w)+1) 0 U)) (AP _)).trans ?_;rw[<-c];clear i g h c b f;generalize A w (N #[v] t)=W;simp};{refine(h.cell (p:=(Q (J (Y w)+1+1) 0 U)) (AP _)).trans ?_;rw[<-b];clear i g h c b f;generalize (A w (N #[v] t)).alloc (N #[.int I 0] u)=W;simp};{refine(h.frozen (p:=(Q (J (Y w)+1+1) 0 U)) (AP _)).trans ?_;rw[<-b];clear i g h c b f;generalize (A w (N #[v] t)).alloc (N #[.int I 0] u)=W;simp};{rw[<-f];clear i g h c b f;generalize ((A w (N #[v] t)).alloc (N #[.int I 0] u)).alloc (N #[.int I 0] u)=W;simp}
theorem tF (b off n cap:Nat)(f:Nat->Deed)(w:M)(ZK:gj f n)(hn1:1<=n)(hn:(n:Int)<=400)(ZP:RowDeed w b off n f)(ZQ:∀p,p<n->(f p).b<=200)(hlen:(aC f n).length<=400):Calls Pg 150 #[.agg #[Z (T (Q b off U)) n cap]] w λe X=>e=ZF (.int I (bA 0 (aC f n)))/\Below (J (Y w)) w X:=by
 refine(U5 (n:=3)).1 ?_;have HF:=ae ZP;have HA:=ae ZK;have ZI:=ae ZQ;clear ZP ZK ZQ;have ZN:=((((q9 w).alloc ly (N #[Z (T (Q b off U)) n cap] 37)).alloc (by simp) (N #[.int I 0] 3)).alloc (by simp;omega) (N #[.int I 0] 3)).alloc (by simp;omega) (N #[Z (T (Q b off U)) n cap] 37);have ZJ:=ae ZN;clear ZN;have D:=ae (zu w (Z (T (Q b off U)) n cap) 37 3);refine callsIn_of_wp_marks func150 rfl trivial ?_ rfl;simp only[ntmps150,CV,eL,nX,Nat.reduceAdd,Nat.reduceSub,P7,P9,QU,QE,LN,IN];gi_wp2_with (refine⟨trivial,?_⟩;gi_at_call 117;refine(qb _ _ _).mono ?_;rintro e X ⟨rfl,rfl⟩);generalize World.alloc (World.alloc (World.alloc (World.alloc w _) _) _) _=W at ZJ D ⊢;have hsz:=D.size;obtain⟨O,R⟩:=D.r;obtain⟨ZM,L⟩:=D.t;refine jK (F:=Fence.wide) rfl (by omega) (gf:=171) (lb:=#[.pointer (T (Q (J (Y w)+1+1+1) 0 U))]) rfl trivial (enters_of func171 (by kernel_rfl) rfl) (base:=J (Y w)) (by omega)
  (ox w b off n cap (J (Y w)+1+1+1) (3 - 1) f W HA hn1 hn HF ZI ZJ D.a (by omega)) br (λ_=>rfl)
  (λg j=>j.cell? (Q (J (Y w)+1+1) 0 U)=T (.int I (g.length:Int))/\j.frozen? (Q (J (Y w)+1+1) 0 U)=ZA/\j.cell? (Q (J (Y w)+1) 0 U)=T (.int I 0)/\j.frozen? (Q (J (Y w)+1) 0 U)=ZA/\Hid (bA 0 g=-1)/\Hid (Below (J (Y w)) w j))
  (λc g j=>c=.ret/\j.cell? (Q (J (Y w)+1) 0 U)=T (.int I (bA 0 g))/\Hid (bA 0 g≠-1)/\Hid (Below (J (Y w)) w j))
  (λs ZR B h m=>⟨(m.cell (p:=(Q (J (Y w)+1+1) 0 U)) (by show (J (Y w))+1+1<J (Y W);omega)).trans h.1,(m.frozen (p:=(Q (J (Y w)+1+1) 0 U)) (by show (J (Y w))+1+1<J (Y W);omega)).trans h.2.1,(m.cell (p:=(Q (J (Y w)+1) 0 U)) (by show (J (Y w))+1<J (Y W);omega)).trans h.2.2.1,(m.frozen (p:=(Q (J (Y w)+1) 0 U)) (by show (J (Y w))+1<J (Y W);omega)).trans h.2.2.2.1,h.2.2.2.2.1,h.2.2.2.2.2.trans (m.mono (by omega))⟩)
  (λc s ZR B h m=>⟨h.1,(m.cell (p:=(Q (J (Y w)+1) 0 U)) (by show (J (Y w))+1<J (Y W);omega)).trans h.2.1,h.2.2.1,h.2.2.2.trans (m.mono (by omega))⟩)
  ⟨ZM,L,O,R,rfl,ZJ⟩
  (λx=>{ tmps:=#[.agg #[Z (T (Q b off U)) n cap],.pointer (T (Q (J (Y w)) 0 U)),.pointer (T (Q (J (Y w)+1) 0 U)),.pointer (T (Q (J (Y w)+1+1) 0 U)),.int I (x.1:Int),.agg #[Z (T (Q b off U)) n cap],.func (.func 171) #[] #[.pointer (T (Q (J (Y w)+1+1+1) 0 U))],.int I (x.1:Int),.int I (x.2:Int),undef,undef,undef,undef,undef,undef],defers:=[] }) ?assign ?body ?done ?stop
 case assign =>intro l x W K z;gi_wp2;exact z
 case body =>
  rintro l g x i _ ⟨hc,ZP,y,ZO,u,q⟩ hlt hz;clear O R ZM L;have hpl:(g.length:Int)<=1048576:=by omega
  by_cases hx:(x.1:Int)=(g.length:Int)
  ·have E:bA 0 (g++[x])=-1:=by rw[qd u.out,p6 (by omega)]
   have o:=ae E;clear E;have ZL:=ae (Upd.setCell (P:=λk=>J (Y w)<=k/\k<J (Y W)) i (p:=(Q (J (Y w)+1+1) 0 U)) ⟨by show _<=_+1+1;omega,by show _+1+1<_;omega⟩ (.int I ((g.length:Int)+1)));have H:=ae (q.setCell (p:=(Q (J (Y w)+1+1) 0 U)) (by show _<=_+1+1;omega) (.int I ((g.length:Int)+1)));have c1:(i.setCell (Q (J (Y w)+1+1) 0 U) (.int I ((g.length:Int)+1))).cell? (Q (J (Y w)+1+1) 0 U)=T (.int I ((g++[x]).length:Int)):=by rw[CX _ _ _ (by rw[hc];rfl)];simp
   have c2:(i.setCell (Q (J (Y w)+1+1) 0 U) (.int I ((g.length:Int)+1))).cell? (Q (J (Y w)+1) 0 U)=T (.int I 0):=by rw[sq _ _ _ _ (by simp)];exact y
   have G:=ae c1;have C2:=ae c2;clear c1 c2;gi_wp2;exact⟨ZL,G,by simpa using ZP,C2,by simpa using ZO,o,H⟩
  ·have E:bA 0 (g++[x])=(g.length:Int):=by rw[qd u.out,gM (by omega)];simp
   have o:=ae E;clear E;have ZL:=ae (Upd.setCell (P:=λk=>J (Y w)<=k/\k<J (Y W)) i (p:=(Q (J (Y w)+1) 0 U)) ⟨by show _<=_+1;omega,by show _+1<_;omega⟩ (.int I (g.length:Int)));have H:=ae (q.setCell (p:=(Q (J (Y w)+1) 0 U)) (by show _<=_+1;omega) (.int I (g.length:Int)));have G:=ae (CX i (Q (J (Y w)+1) 0 U) (.int I (g.length:Int)) (by rw[y];rfl));gi_wp2;exact⟨ZL,rfl,by rw[o.out];exact G,by show _≠_;rw[o.out];omega,H⟩
 case done =>rintro D0 ys i V rfl ⟨_,_,y,ZO,u,q⟩ z;have K1:=ae ((KeepsOthers.setCell i (Q (J (Y w)+1) 0 U) (.int I (-1))).same D0 _ z rfl);have H:=ae (q.setCell (p:=(Q (J (Y w)+1) 0 U)) (by show _<=_+1;omega) (.int I (-1)));have G:=ae (CX i (Q (J (Y w)+1) 0 U) (.int I (-1)) (by rw[y];rfl));gi_wp2;refine⟨by simp,.inl ⟨_,_,rfl,run_takeDeferred K1,?_⟩⟩;have C:=da (n:=J (Y W)) (i.setCell (Q (J (Y w)+1) 0 U) (.int I (-1))) V (eT.1 K1).1 (.deferred U);have c:=(C.cell (p:=(Q (J (Y w)+1) 0 U)) (by show (J (Y w))+1<J (Y W);omega)).trans G;exact⟨.int I (-1),by simp[results,results150,go_sem,c],by rw[u.out],H.trans (C.mono (by omega))⟩
 case stop =>rintro D0 c g i V S ⟨rfl,y,u,q⟩ z;gi_wp2;refine⟨by simp,.inl ⟨_,_,rfl,run_takeDeferred z,?_⟩⟩;have C:=da (n:=J (Y W)) i V (eT.1 z).1 (.deferred U);have c:=(C.cell (p:=(Q (J (Y w)+1) 0 U)) (by show (J (Y w))+1<J (Y W);omega)).trans y;exact⟨.int I (bA 0 g),by simp[results,results150,go_sem,c],by rw[uD S u.out],q.trans (C.mono (by omega))⟩
structure JY (W:M)(h:Nat)(v:ZC):Prop where
 size:J (Y W)=h+3
 r:W.cell? (Q (h+1) 0 U)=T (.int I 0)/\W.frozen? (Q (h+1) 0 U)=ZA
 a:W.cell? (Q (h+1+1) 0 U)=T v
 a0:W.cell? (Q h 0 U)=T v
theorem zv (w:M)(v:ZC)(t u:ZH):JY (((A w (N #[v] t)).alloc (N #[.int I 0] u)).alloc (N #[v] t)) (J (Y w)) v:=by
 have b:(A w (N #[v] t)).heap.size=J (Y w)+1:=by simp
 have c:((A w (N #[v] t)).alloc (N #[.int I 0] u)).heap.size=J (Y w)+1+1:=by simp
 have g:Below (J (Y w)+1) (A w (N #[v] t)) (((A w (N #[v] t)).alloc (N #[.int I 0] u)).alloc (N #[v] t)):=(br.alloc (by omega) _).alloc (by omega) _;have f:Below (J (Y w)+1+1) ((A w (N #[v] t)).alloc (N #[.int I 0] u)) (((A w (N #[v] t)).alloc (N #[.int I 0] u)).alloc (N #[v] t)):=br.alloc (by omega) _;refine⟨by simp,⟨?_,?_⟩,?_,(g.cell (p:=(Q (J (Y w)) 0 U)) (AP _)).trans (by simp)⟩;{refine(f.cell (p:=(Q (J (Y w)+1) 0 U)) (AP _)).trans ?_;rw[<-b];clear g f b c;generalize A w (N #[v] t)=W;simp};{refine(f.frozen (p:=(Q (J (Y w)+1) 0 U)) (AP _)).trans ?_;rw[<-b];clear g f b c;generalize A w (N #[v] t)=W;simp};{rw[<-c];clear g f b c;generalize (A w (N #[v] t)).alloc (N #[.int I 0] u)=W;simp}
theorem xa (b off n cap:Nat)(f:Nat->Deed)(w:M)(ZJ:gj f n)(hn1:1<=n)(hn:(n:Int)<=400)(S:RowDeed w b off n f)(H:∀p,p<n->(f p).b<=200):Calls Pg 151 #[.agg #[Z (T (Q b off U)) n cap]] w λe ZL=>e=ZF (.int I (aZ f (aC f n)))/\Below (J (Y w)) w ZL:=by
 refine(U5 (n:=3)).1 ?_;have HF:=ae S;have HA:=ae ZJ;have X:=ae H;clear S ZJ H;obtain⟨W,z⟩:∃W:M,((A w (N #[Z (T (Q b off U)) n cap] 37)).alloc (N #[.int I 0] 3)).alloc (N #[Z (T (Q b off U)) n cap] 37)=W:=⟨_,rfl⟩
 obtain⟨u,-,-,-,-⟩:=nb3 z;replace u:=u.out;have ZP:=ae z;clear z;have A0:=ae u;clear u;have D:=ae (zv w (Z (T (Q b off U)) n cap) 37 3);refine callsIn_of_wp_marks func151 rfl trivial ?_ rfl;simp only[ntmps151,CV,eL,nX,Nat.reduceAdd,Nat.reduceSub,P7,P9,QU,QE,LN,IN];gi_wp2_with (refine⟨trivial,?_⟩;gi_at_call 117;refine(qb _ _ _).mono ?_;rintro e ZL ⟨rfl,rfl⟩);rw[ZP.out] at D ⊢;clear ZP;have hsz:=D.size;obtain⟨ZN,L⟩:=D.r;have ta:=D.a0;refine jK (F:=Fence.wide) rfl (by omega) (gf:=171) (lb:=#[.pointer (T (Q (J (Y w)+1+1) 0 U))]) rfl trivial (enters_of func171 (by kernel_rfl) rfl) (base:=J (Y w)) (by omega)
  (ox w b off n cap (J (Y w)+1+1) (3 - 1) f W HA hn1 hn HF X A0 D.a (by omega)) br (λ_=>rfl)
  (λg q=>q.cell? (Q (J (Y w)) 0 U)=T (Z (T (Q b off U)) n cap)/\q.cell? (Q (J (Y w)+1) 0 U)=T (.int I 0)/\q.frozen? (Q (J (Y w)+1) 0 U)=ZA/\Hid (aZ f g=-1)/\Hid (Below (J (Y w)) w q))
  (λc g q=>c=.ret/\q.cell? (Q (J (Y w)+1) 0 U)=T (.int I (aZ f g))/\Hid (aZ f g≠-1)/\Hid (Below (J (Y w)) w q))
  (λs ZR B h t=>⟨(t.cell (p:=(Q (J (Y w)) 0 U)) (by show (J (Y w))<J (Y W);omega)).trans h.1,(t.cell (p:=(Q (J (Y w)+1) 0 U)) (by show (J (Y w))+1<J (Y W);omega)).trans h.2.1,(t.frozen (p:=(Q (J (Y w)+1) 0 U)) (by show (J (Y w))+1<J (Y W);omega)).trans h.2.2.1,h.2.2.2.1,h.2.2.2.2.trans (t.mono (by omega))⟩)
  (λc s ZR B h t=>⟨h.1,(t.cell (p:=(Q (J (Y w)+1) 0 U)) (by show (J (Y w))+1<J (Y W);omega)).trans h.2.1,h.2.2.1,h.2.2.2.trans (t.mono (by omega))⟩)
  ⟨ta,ZN,L,rfl,A0⟩
  (λx=>{ tmps:=#[.agg #[Z (T (Q b off U)) n cap],.pointer (T (Q (J (Y w)) 0 U)),.pointer (T (Q (J (Y w)+1) 0 U)),.int I (x.1:Int),.int I (x.2:Int),.agg #[Z (T (Q b off U)) n cap],.func (.func 171) #[] #[.pointer (T (Q (J (Y w)+1+1) 0 U))],.int I (x.1:Int),.int I (x.2:Int),undef,undef,undef,undef,undef,undef,undef,undef,undef,undef,undef,undef],defers:=[] }) ?assign ?body ?done ?stop
 case assign =>intro l x W K y;gi_wp2;exact y
 case body =>
  rintro l g x j V ⟨ha,o,G,E,m⟩ hlt hz;clear ZN L ta;obtain⟨_,p1,_⟩:=(HF.aa m ly).2 x.1 V;have hx0:(0:Int)<=(x.1:Int):=by omega
  have hxn:(x.1:Int)<n:=by omega
  have ZO:=ae (wY (x:=x) E);have U1:=ae (Upd.setCell (P:=λk=>J (Y w)<=k/\k<J (Y W)) j (p:=(Q (J (Y w)+1) 0 U)) ⟨by show _<=_+1;omega,by show _+1<_;omega⟩ (.int I (x.1:Int)));have ZM:=ae (m.setCell (p:=(Q (J (Y w)+1) 0 U)) (by show _<=_+1;omega) (.int I (x.1:Int)));have O:=ae (CX j (Q (J (Y w)+1) 0 U) (.int I (x.1:Int)) (by rw[o];rfl));cases h3:((f x.1).m == 3) with
  |false =>
   have i:Hid (aZ f (g++[x])=-1):=by show _=_;rw[ZO.out,gM (by intro h;rw[h.1] at h3;simp at h3)]
   gi_wp2;exact⟨Upd.refl _ _,ha,o,G,i,m⟩
  |true =>
   by_cases h6:(60:Int)<=(x.2:Int)
   ·have i:Hid (aZ f (g++[x])=(x.1:Int)):=by show _=_;rw[ZO.out,p6 ⟨by simpa using h3,by omega⟩]
    gi_wp2;exact⟨U1,rfl,by rw[i.out];exact O,by show _≠_;rw[i.out];omega,ZM⟩
   ·have i:Hid (aZ f (g++[x])=-1):=by show _=_;rw[ZO.out,gM (by intro h;omega)]
    gi_wp2;exact⟨Upd.refl _ _,ha,o,G,i,m⟩
 case done =>rintro ZK ys j R rfl ⟨_,o,G,E,m⟩ y;have ZI:=ae ((KeepsOthers.setCell j (Q (J (Y w)+1) 0 U) (.int I (-1))).same ZK _ y rfl);have ZM:=ae (m.setCell (p:=(Q (J (Y w)+1) 0 U)) (by show _<=_+1;omega) (.int I (-1)));have O:=ae (CX j (Q (J (Y w)+1) 0 U) (.int I (-1)) (by rw[o];rfl));gi_wp2;refine⟨by simp,.inl ⟨_,_,rfl,run_takeDeferred ZI,?_⟩⟩;have C:=da (n:=J (Y W)) (j.setCell (Q (J (Y w)+1) 0 U) (.int I (-1))) R (eT.1 ZI).1 (.deferred U);have c:=(C.cell (p:=(Q (J (Y w)+1) 0 U)) (by show (J (Y w))+1<J (Y W);omega)).trans O;exact⟨.int I (-1),by simp[results,results151,go_sem,c],by rw[E.out],ZM.trans (C.mono (by omega))⟩
 case stop =>rintro ZK c g j R ZQ ⟨rfl,o,E,m⟩ y;gi_wp2;refine⟨by simp,.inl ⟨_,_,rfl,run_takeDeferred y,?_⟩⟩;have C:=da (n:=J (Y W)) j R (eT.1 y).1 (.deferred U);have c:=(C.cell (p:=(Q (J (Y w)+1) 0 U)) (by show (J (Y w))+1<J (Y W);omega)).trans o;exact⟨.int I (aZ f g),by simp[results,results151,go_sem,c],by rw[tE ZQ E.out],m.trans (C.mono (by omega))⟩
theorem qe (g:Nat->Bool)(n:Nat):aM g n=-1∨0<=aM g n:=by
 induction n with
 |zero=>exact .inl rfl
 |succ k b =>
  rw[aM];split;{split;{exact .inl rfl};{exact .inr (by omega)}};{exact b}
theorem Ex (i:Nat)(b:List (Nat × Nat)):bA i b=-1∨0<=bA i b:=by
 induction b generalizing i with
 |nil=>exact .inl rfl
 |cons x b c =>
  rw[bA];split;{exact c _};{exact .inr (by omega)}
theorem sE (f:Nat->Deed)(b:List (Nat × Nat)):aZ f b=-1∨0<=aZ f b:=by
 induction b with
 |nil=>exact .inl rfl
 |cons x b c =>
  rw[aZ];split;{exact .inr (by omega)};{exact c}
theorem o6 (h:aM (bi f) n=-1):∀p,p<n->(f p).b<=200:=by
 intro p b;have h1:=fQ h p b;simp only[bi,z8,kindOk] at h1;obtain⟨_,h2⟩:=h1;split at h2;{simp[aY] at h2;omega};{split at h2;{simp[aY] at h2;omega};{split at h2;{simp only[cH,z8,AI] at h2;omega};{cases h2}}}
theorem Ey (h:aM (bi f) n=-1):∀p,p<n->(f p).e.size<=maxLen:=by intro p b;have h1:=fQ h p b;simp only[bi,aw,z8,AI] at h1;unfold maxLen;omega
theorem kQ (b:gj f n)(hn:1<=n):(aC f n).length<=n:=by
 have h:=(xL b n (n - 1) 0 (λ_=>ZA) (by omega) (by omega) rfl).num;have h2:=IW (lst f n (n - 1) 0 (λ_=>ZA)).1 n;have h3:∀k,cnt (λ_=>ZA) k=0:=by
  intro k;induction k with
  |zero=>rfl
  |succ j c=>rw[cnt,c];rfl
 rw[h3] at h;unfold aC;omega
structure JZ (w:M)(b:Nat)(v0 v1 v2 v3:ZC):Prop where
 lt:b<J (Y w)
 c0:w.cell? (Q b 0 U)=T v0
 c1:w.cell? (Q b 1 U)=T v1
 c2:w.cell? (Q b 2 U)=T v2
 c3:w.cell? (Q b 3 U)=T v3
theorem Hg (w:M)(g c b f:ZC)(t:ZH):JZ (A w (N #[g,c,b,f] t)) (J (Y w)) g c b f:=⟨by simp,by simp,by simp,by simp,by simp⟩
theorem xc (a:Option Addr)(n cap:Nat)(f:Nat->Deed)(w:M)(hn:(n:Int)<=1048576)(O:SlDeed w a n f)(K:(n:Int)<=cap)(D:∀i,i<n->cV (f i))(S:Tab w):Calls Pg 100 #[.agg #[Z a n cap]] w λe ZK=>e=ZF (.tuple #[.int I (eV f n).1,.int I (eV f n).2])/\Below (J (Y w)) w ZK:=by
 have ZM:=ae O;have HM:=ae D;have ZJ:=ae S;clear O D S;have H:=ae ((q9 w).alloc ly (N #[Z a n cap] 37));have ZL:(A w (N #[Z a n cap] 37)).cell? (Q (J (Y w)) 0 U)=T (Z a n cap):=by simp
 obtain⟨c1,c2,o⟩:∃c1 c2,eV f n=(c1,c2):=⟨_,_,rfl⟩
 rw[o];have y:=ae o;clear o;by_cases P:(n:Int)=0
 ·have c:c1=1/\c2=0:=by have:=y.out;unfold eV at this;rw[p6 (.inl (by omega))] at this;simp only[LK] at this;omega
  clear y;obtain⟨c,q⟩:=c;subst c q;obtain rfl:n=0:=by omega
  go_enter func100,ntmps100;go_wp2;go_ret2;exact⟨rfl,H⟩
 by_cases h4:(400:Int)<(n:Int)
 ·have c:c1=1/\c2=0:=by have:=y.out;unfold eV at this;rw[p6 (.inr (by omega))] at this;simp only[LK] at this;omega
  clear y;obtain⟨c,q⟩:=c;subst c q;have V:((n:Int) == 0)=ZA:=by simpa using P
  go_enter func100,ntmps100;go_wp2;go_ret2;exact⟨rfl,H⟩
 have u:Hid ((if aM (bi f) n≠-1 then ((2:Int),aM (bi f) n) else if aM (λp=>bc f p p) n≠-1 then (3,aM (λp=>bc f p p) n) else if bA 0 (aC f n)≠-1 then (4,bA 0 (aC f n)) else if aZ f (aC f n)≠-1 then (5,aZ f (aC f n)) else (0,0))=(c1,c2)):=by have:=y.out;unfold eV at this;rw[gM (by omega)] at this;exact this
 clear y;obtain⟨b,off,rfl,C⟩:=ZM.resolve_left (by omega);have E:=ae C;have V:((n:Int) == 0)=ZA:=by simpa using P
 clear ZM C;have s:(n:Int)<=400:=by omega
 have ZQ:=ae (H.alloc (by simp) (N #[.func (.func 148) #[] #[],.func (.func 149) #[] #[],.func (.func 150) #[] #[],.func (.func 151) #[] #[]] 221));go_enter func100,ntmps100;go_wp2;have ZP:(A w (N #[Z (T (Q b off U)) n cap] 37)).heap.size=J (Y w)+1:=by simp
 have m:=ae (Hg (A w (N #[Z (T (Q b off U)) n cap] 37)) (.func (.func 148) #[] #[]) (.func (.func 149) #[] #[]) (.func (.func 150) #[] #[]) (.func (.func 151) #[] #[]) 221);rw[ZP] at m;have R:=(((dB (J (Y w)+1) (A w (N #[Z (T (Q b off U)) n cap] 37))).alloc (by omega) (N #[.func (.func 148) #[] #[],.func (.func 149) #[] #[],.func (.func 150) #[] #[],.func (.func 151) #[] #[]] 221)).cell (p:=(Q (J (Y w)) 0 U)) (AP _)).trans ZL;clear ZP ZL H;generalize World.alloc (World.alloc w _) _=W at ZQ m R ⊢;have r:J (Y w)+1<J (Y W):=m.lt;go_loopw [21] (λi wr=>∃k:Nat,k<=4/\i=.int I k/\Hid (1<=k->aM (bi f) n=-1)/\Hid (2<=k->aM (λp=>bc f p p) n=-1)/\Hid (3<=k->bA 0 (aC f n)=-1)/\Hid (4<=k->aZ f (aC f n)=-1)/\Hid (Below (J (Y W)) W wr)) (λi _=>4 - (intOf i).toNat);case atStart=>exact⟨0,by omega,rfl,λh=>by omega,λh=>by omega,λh=>by omega,λh=>by omega,dB _ _⟩
 case round =>
  obtain⟨k,hk,rfl,g,G,L,H4,j⟩:=hrel;have k2:=(j.cell (p:=(Q (J (Y w)) 0 U)) (by show (J (Y w))<_;omega)).trans R;have l:=ae (ZQ.trans (j.mono ZQ.size));by_cases hlt:k<4
  ·rcases(show(True/\k=0)∨(True/\k=1)∨(True/\k=2)∨(True/\k=3) by rcases(show k=0∨k=1∨k=2∨k=3 by omega) with h|h|h|h<;>simp[h]) with ⟨M0,rfl⟩|⟨M1,rfl⟩|⟨M2,rfl⟩|⟨M3,rfl⟩
   all_goals
    first
     |(guard_hyp M0;have ZN:=(j.cell (p:=(Q (J (Y w)+1) 0 U)) r).trans m.c0;have z:=ae (tA b off n cap f _ s (E.aa l ly) K HM (ZJ.aa l ZJ.1));have ZR:=ae (qe _ _:aM (bi f) n=-1∨0<=aM (bi f) n);obtain⟨X,hX⟩:∃X,X=aM (bi f) n:=⟨_,rfl⟩)
     |(guard_hyp M1;have ZN:=(j.cell (p:=(Q (J (Y w)+1) 1 U)) r).trans m.c1;have z:=ae (tD b off n cap f _ s (E.aa l ly) (Ey (g (by omega))));have ZR:=ae (qe _ _:aM (λp=>bc f p p) n=-1∨0<=aM (λp=>bc f p p) n);obtain⟨X,hX⟩:∃X,X=aM (λp=>bc f p p) n:=⟨_,rfl⟩)
     |(guard_hyp M2;have ZN:=(j.cell (p:=(Q (J (Y w)+1) 2 U)) r).trans m.c2;have z:=ae (tF b off n cap f _ (jN (g (by omega))) (by omega) s (E.aa l ly) (o6 (g (by omega))) (by have:=kQ (jN (g (by omega))) (n:=n) (by omega);omega));have ZR:=ae (Ex _ _:bA 0 (aC f n)=-1∨0<=bA 0 (aC f n));obtain⟨X,hX⟩:∃X,X=bA 0 (aC f n):=⟨_,rfl⟩)
     |(guard_hyp M3;have ZN:=(j.cell (p:=(Q (J (Y w)+1) 3 U)) r).trans m.c3;have z:=ae (xa b off n cap f _ (jN (g (by omega))) (by omega) s (E.aa l ly) (o6 (g (by omega))));have ZR:=ae (sE _ _:aZ f (aC f n)=-1∨0<=aZ f (aC f n));obtain⟨X,hX⟩:∃X,X=aZ f (aC f n):=⟨_,rfl⟩)
    rw[<-hX] at z ZR;have B:=ae hX;clear hX;go_wp2_with fail;refine z.mono ?_;rintro e w2 ⟨rfl,ZO⟩;have ZI:=ae (l.trans (ZO.mono l.size));have t:=ae (j.trans (ZO.mono j.size));clear ZO z;by_cases x:X=-1
    ·have F:=ae (B.symm.trans x)
     have hd:decide (0<=X)=ZA:=by rw[x];rfl
     clear x;go_wp2;first
      |(guard_hyp M0;exact⟨⟨0+1,by omega,by go_num,λ_=>F,λh=>by omega,λh=>by omega,λh=>by omega,t⟩,by simp[intOf]⟩)
      |(guard_hyp M1;exact⟨⟨1+1,by omega,by go_num,λ_=>g (by omega),λ_=>F,λh=>by omega,λh=>by omega,t⟩,by simp[intOf]⟩)
      |(guard_hyp M2;exact⟨⟨2+1,by omega,by go_num,λ_=>g (by omega),λ_=>G (by omega),λ_=>F,λh=>by omega,t⟩,by simp[intOf]⟩)
      |(guard_hyp M3;exact⟨⟨3+1,by omega,by go_num,λ_=>g (by omega),λ_=>G (by omega),λ_=>L (by omega),λ_=>F,t⟩,by simp[intOf]⟩)
    ·have c:=u.out
     (try rw[gM (by rw[g.out (by omega)];simp)] at c)
     (try rw[gM (by rw[G.out (by omega)];simp)] at c)
     (try rw[gM (by rw[L.out (by omega)];simp)] at c)
     rw[p6 (by rw[<-B.out];exact x),<-B.out] at c;simp only[LK] at c;have hge:0<=X:=ZR.resolve_left x;obtain⟨c,q⟩:=c;clear u x ZR;subst c q;go_wp2;go_ret2;exact⟨rfl,ZI⟩
  ·obtain rfl:k=4:=by omega
   have c:c1=0/\c2=0:=by have:=u.out;rw[gM (by rw[g.out (by omega)];simp),gM (by rw[G.out (by omega)];simp),gM (by rw[L.out (by omega)];simp),gM (by rw[H4.out (by omega)];simp)] at this;simp only[LK] at this;omega
   obtain⟨c,q⟩:=c;clear u;subst c q;go_wp2;go_ret2;exact⟨rfl,l⟩
