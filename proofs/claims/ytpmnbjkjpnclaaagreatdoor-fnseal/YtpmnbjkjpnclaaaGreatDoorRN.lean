import Derived.Test.YtpmnbjkjpnclaaaGreatDoorSC
import Derived.RangeFuncNested
import Derived.RangeFuncBound
import Derived.RangeFuncCalls
import Derived.RangeFuncLeaves
import Derived.Shelf.Abstract
import Derived.Shelf.RegionOpen
import Derived.OwnWalkIn
import Derived.TacticsInMore
import Derived.LoopNIn
import Derived.LoopIn
import Derived.Sort.QuietIn
import Derived.Sort.BigQuietIn
import Derived.Sort.CutIn
import Derived.Test.YtpmnbjkjpnclaaaGreatDoorSE
import Derived.Maps.OwnSet
import Derived.Maps.Views
import Derived.StringKeys
set_option maxRecDepth 100000
set_option maxHeartbeats 4000000
set_option linter.unusedSimpArgs false
open Go renaming Addr.mk->Q,Value.slice->Z,Obj.cells->J,IntKind.i64->I,World->M,Value->ZC,TypeId->ZI,Ending.returned->ZF,World.heap->U,World.alloc->A,Proofs.Tryz.prog->Pg
open Option renaming none->Y,some->T
open Bool renaming false->ZA,true->ZG
open Array renaming size->N
namespace Go.Proofs.YtpmnbjkjpnclaaaGreatDoor.Vp
open Tryz RowKit
variable {n l b off cap n1 L ZR i m:Nat}{W g:M}{f:Nat->Deed}{s:Nat->Bool}{pre:List (Nat × Nat)}{ZM:ZI}{F:Fence}{P:Program}{R:Ending->M->Prop}{x:Nat × Nat}
theorem Hm{k:Nat}{D:DataW Unit}(b:Maps.IsMap D)(h:∀p,Maps.has D (.string (f p).e.data.toList)=!bc f p k)(d:DataW Unit):∀p,Maps.has (D.put (.string (f k).e.data.toList) d) (.string (f p).e.data.toList)=!bc f p (k+1):=by
 intro p;rw[bc,Bool.not_and,<-h p,Bool.not_not];by_cases e:(f p).e.data.toList=(f k).e.data.toList;{rw[e,Maps.has_put_same b (by simp[WideAt.IsKeyLit])];simp[BG,e]}
 ·rw[Maps.has_put_other (by simpa using e)];have:((f k).e.toList == (f p).e.toList)=ZA:=by simpa[BG] using λh=>e (by rw[h])
  rw[this];simp
theorem tG (b off n cap:Nat)(f:Nat->Deed)(w:M)(hn:(n:Int)<=400)(R:RowDeed w b off n f)(S:∀i,i<n->(f i).e.size<=maxLen):Calls Pg 149 #[.agg #[Z (T (Q b off Y)) n cap]] w λe ZJ=>e=ZF (.int I (aM (λp=>bc f p p) n))/\Below (N (U w)) w ZJ:=by
 have X:=ae R;have V:=ae S;clear R S;have ZM:=ae (((q9 w).alloc ly (J #[Z (T (Q b off Y)) n cap] 37)).alloc (by simp) (.map #[] 0));have B:=ae (World.ownsMap_made (A w (J #[Z (T (Q b off Y)) n cap] 37)) Pg 9 (plainElem (H:=Unit) Pg 3));have hz:(A w (J #[Z (T (Q b off Y)) n cap] 37)).heap.size=N (U w)+1:=by simp
 rw[hz] at B;clear hz;obtain⟨r,ZP⟩:∃r,r=aM (λp=>bc f p p) n:=⟨_,rfl⟩
 rw[<-ZP];have L:=ae ZP;clear ZP;have ZN:=@run_makeMap Pg;go_enter func149,ntmps149;go_wp2;clear ZN;generalize World.alloc (World.alloc w _) _=W at ZM B ⊢;obtain⟨o,t⟩:∃o,o=N (U w)+1:=⟨_,rfl⟩
 rw[<-t] at B ⊢;have ZO:=ae t;clear t;go_loopw [12] (λi wr=>∃(k:Nat) (D:DataW Unit),k<=n/\i=.int I k/\Hid (∀j,j<k->bc f j j=ZG)/\Hid (wr.ownsMap Pg 9 (plainElem (H:=Unit) Pg 3) o k D)/\Hid (∀p,Maps.has D (.string (f p).e.data.toList)=!bc f p k)/\Hid (Below (N (U w)) w wr)) (λi _=>n - (intOf i).toNat);case atStart=>exact⟨0,_,by omega,rfl,λj ZL=>absurd ZL (PS _),B,λp=>rfl,ZM⟩
 case round =>
  obtain⟨k,D,hk,rfl,G,C,K,l⟩:=hrel;by_cases x:k<n
  ·obtain⟨p0,p1,p2,p3,⟨a0,u,p4,q4⟩,⟨a1,y,p5,q5⟩⟩:=(X.aa l ly).2 k x;clear q4 q5;have q:=WideMaps.keyOf_string_mk (P:=Pg) (k:=9) F3 (V k x);have h:=ae q;have E:=ae (K k);clear q;cases hnew:bc f k k with
   |false =>
    have s:Maps.has D (.string (f k).e.data.toList)=ZG:=by rw[E.out,hnew];rfl
    have HHS:=ae s;obtain rfl:r=k:=by rw[L.out];exact fQ x hnew G
    clear hnew;have ZQ:=ae (l.alloc l.size (J #[.string (f k).e,.int I (f k).m,.int I (f k).E,.string (f k).B,Z a0 (f k).f u,Z a1 (f k).b y] 46));go_wp2_with (at_lookup;refine wpList_lookup_own_ok_int _ rfl _ _ 281 rfl 9 3 I (Maps.string_keyed F3) WY PK (QS _) o k D rfl (C.alloc _) _ _ rfl h ?_;intro c z ZS;clear z ZS);go_ret;exact⟨rfl,ZQ⟩
   |true =>
    have s:Maps.has D (.string (f k).e.data.toList)=ZA:=by rw[E.out,hnew];rfl
    have O:=ae hnew;clear hnew;have F:(Lit.int I (k:Int)).wf=ZG:=by simp only[Lit.wf,IntKind.min,IntKind.max,IntKind.signed,IntKind.bits,zA,z8,if_true];omega
    have ZR:=ae F;clear F
    go_wp2_with (first
     |(at_lookup;refine wpList_lookup_own_ok_int _ rfl _ _ 281 rfl 9 3 I (Maps.string_keyed F3) WY PK (QS _) o k D rfl (C.alloc _) _ _ rfl h ?_;intro c z ZS;clear z ZS)
     |(at_mapUpdate;refine wpList_mapUpdate_own _ rfl _ _ _ 281 rfl 9 3 (Maps.string_keyed F3) WY _ o k D rfl (C.alloc _) (by unfold maxLen;omega) _ _ _ rfl rfl h _ [] (plainElem_int PK ZR) ?_;intro w1 m g;have ZK:=ae m;have ZQ:=ae (bg (l.alloc l.size (J #[.string (f k).e,.int I (f k).m,.int I (f k).E,.string (f k).B,Z a0 (f k).f u,Z a1 (f k).b y] 46)) g (by have:=l.size;simp;omega) (λj e=>by cases e;have:=ZO.out;omega));clear m g))
    exact⟨⟨k+1,_,by omega,by go_num,λj ZL=>by
     by_cases e:j=k;{subst e;exact O}
     ·exact G j (by omega),ZK,Hm C.isMap K _,ZQ⟩,by simp[intOf];omega⟩
  ·have e:n=k:=by omega
   subst e;obtain rfl:r=-1:=by rw[L.out];exact fE G
   go_wp2;go_ret;exact⟨rfl,l⟩
open Go.Shelf Ca
attribute [local go_sem] TO
structure LSt (w0 W:M)(n1 b off n cap L ZR l:Nat)(s:Nat->Bool):Prop where
 c0:W.cell? (Q L 0 Y)=T (Z (T (Q b off Y)) n cap)
 c1:W.cell? (Q L 1 Y)=T (Z (T (Q ZR 0 Y)) n n)
 c2:W.cell? (Q L 2 Y)=T (.func (.yield l) #[] #[])
 row:∀q,q<n->W.cell? (Q ZR q Y)=T (.bool (s q))/\W.frozen? (Q ZR q Y)=ZA
 low:Below (N (U w0)) w0 W
 hL:n1<=L/\L<N (U W)
 hM:n1<=ZR/\ZR<N (U W)
 ne:L≠ZR
 hb:N (U w0)<=n1
 tyM:OfTy W ZR 4
 tyL:OfTy W L 246
theorem LSt.blocks{f:M}(h:LSt g W n1 b off n cap L ZR l s)(hz:N (U W)<=N (U f))(j:f.heap[L]?=W.heap[L]?)(i:f.heap[ZR]?=W.heap[ZR]?)(p:Below (N (U g)) g f):LSt g f n1 b off n cap L ZR l s:=by have c:∀o,f.cell? (Q L o Y)=W.cell? (Q L o Y):=λo=>cq (a:=(Q L o Y)) j;exact⟨(c 0).trans h.c0,(c 1).trans h.c1,(c 2).trans h.c2,λq m=>⟨(cq (a:=(Q ZR q Y)) i).trans (h.row q m).1,(JN (a:=(Q ZR q Y)) i).trans (h.row q m).2⟩,p,⟨h.hL.1,lj h.hL.2 hz⟩,⟨h.hM.1,lj h.hM.2 hz⟩,h.ne,h.hb,h.tyM.eq i,h.tyL.eq j⟩
theorem LSt.aa{f c:M}(h:LSt f W n1 b off n cap L ZR l s)(hb:Below (N (U W)) W c):LSt f c n1 b off n cap L ZR l s :=
 h.blocks hb.size (hb.block L h.hL.2) (hb.block ZR h.hM.2) (h.low.trans (hb.mono h.low.size))
theorem LSt.upd{f:M}(i:ZM≠4/\ZM≠246)(h:LSt f W n1 b off n cap L ZR l s)(c:Upd2 ZM (N (U f)) n1 W g):LSt f g n1 b off n cap L ZR l s :=
 h.blocks c.size (c.block L h.hL.2 (.inr ⟨h.hL.1,h.tyL.ne i.2⟩)) (c.block ZR h.hM.2 (.inr ⟨h.hM.1,h.tyM.ne i.1⟩)) (h.low.trans (c.aa h.low.size))
theorem LSt.set{p:Nat}(h:LSt g W n1 b off n cap L ZR l s)(hp:p<n):LSt g (W.setCell (Q ZR p Y) (.bool ZG)) n1 b off n cap L ZR l (put s p):=by
 have c:∀o,(W.setCell (Q ZR p Y) (.bool ZG)).cell? (Q L o Y)=W.cell? (Q L o Y):=λo=>sq _ _ _ _ (by simp;exact λe=>absurd e.symm h.ne);refine⟨(c 0).trans h.c0,(c 1).trans h.c1,(c 2).trans h.c2,λq f=>⟨?_,by simpa using(h.row q f).2⟩,h.low.setCell (by have:=h.hM.1;have:=h.hb;show _<=ZR;omega) _,by simpa using h.hL,by simpa using h.hM,h.ne,h.hb,h.tyM.set _ _,h.tyL.set _ _⟩;by_cases e:q=p;{subst e;rw[CX _ _ _ (by rw[(h.row q f).1];rfl)];simp[put]};{rw[sq _ _ _ _ (by simp),(h.row q f).1];simp[put,e]}
theorem qe{b:Nat->Nat->(Nat->Bool)->(Nat->Bool) × List (Nat × Nat)}{x:Deed}{d:Nat}(h:i<=m):(lks b x d s i).2 <+: (lks b x d s m).2:=by
 induction m with
 |zero =>
  obtain rfl:i=0:=by omega
  exact WJ
 |succ k c =>
  by_cases e:i=k+1;{subst e;exact WJ};{refine(c (by omega)).trans ?_;rw[lks];split;{exact WZ _ _};{exact WJ}}
theorem Hn (hT:ZM≠4/\ZM≠246)(H:M)(n1 b off n cap L ZR l:Nat)(E:List (Nat × Nat))(f:Nat->Deed)(ZP ZN:List (Nat × Nat)->M->Prop)(hA:gu f n)(hn:(n:Int)<=400)(hf:RowDeed H b off n f)(hlk:∀p,p<n->(f p).b<=200)
  (hJ:∀s ZS C,ZP s ZS->Itr 4 n1 ZS C->ZP s C) (fd:∀s ZS C,ZN s ZS->Itr 4 n1 ZS C->ZN s C)
  (hY:∀m pre (x:Nat × Nat) W,x.1<n->ZP pre W->pre++[x] <+: E->n1<=N (U W)->YieldAt Fence.wide m Pg l #[.int I (x.1:Int),.int I (x.2:Int)] W λe t =>
   (e=ZF (.bool ZG)/\ZP (pre++[x]) t/\Upd2 ZM (N (U H)) n1 W t)∨(e=ZF (.bool ZA)/\ZN (pre++[x]) t)) :
  ∀(k p d:Nat) (s:Nat->Bool) (pre:List (Nat × Nat)) (W:M) (G:Nat),p<k->p<n->d+p<=1000->LSt H W n1 b off n cap L ZR l s->s p=ZA->ZP pre W->pre++(lst f k p d s).2 <+: E ->
   CallsIn Fence.wide G Pg 172 #[.pointer (T (Q L 0 Y)),.int I (p:Int),.int I (d:Int)] W λe t =>(e=ZF (.bool ZG)/\ZP (pre++(lst f k p d s).2) t/\LSt H t n1 b off n cap L ZR l (lst f k p d s).1)∨(e=ZF (.bool ZA)/\∃q,q <+: (lst f k p d s).2/\ZN (pre++q) t):=by
 intro k;induction k with
 |zero=>intro p d s pre W G h;omega
 |succ k ih =>
  intro p d s pre W G hpk D hdp hS hs ph hN;have HS:=ae hS;have Fd:=ae ph;have HN:=ae hN;have Bk:=ae ih;have HY:=ae hY;have ZJ:=ae hJ;have HJx:=ae fd;have HA:=ae hA;have HF:=ae hf;obtain⟨_,_,_,_,_,⟨a1,cap1,sm,q5⟩⟩:=hf.2 p D;have p5:=(hS.low.cell (p:=(Q b (off+p*6+5) Y)) hf.1).trans sm;obtain⟨m,R⟩:∃m,m=(f p).b:=⟨_,rfl⟩
  have hm2:m<=200:=by rw[R];exact hlk p D
  rw[<-R] at p5 q5;have HL:=ae q5;have HM:=ae R;have e0:=hS.c0;obtain⟨K,V⟩:∃K,K=lks (lst f k) (f p) d s:=⟨_,rfl⟩
  have F:Hid (lst f (k+1) p d s=(put (K m).1 p,(K m).2++[(p,d)])):=by rw[V,R];rfl
  have n9:Hid (K 0=(s,[])):=by rw[V];rfl
  have ur:Hid (∀j,K (j+1)=if ((f p).D j).ask=ZG/\(K j).1 ((f p).D j).L.toNat=ZA then ((lst f k ((f p).D j).L.toNat (d+1) (K j).1).1,(K j).2++(lst f k ((f p).D j).L.toNat (d+1) (K j).1).2) else K j):=λj=>by rw[V];rfl
  have DE:Hid (∀i,i<=m->(K i).2 <+: (K m).2):=λi hi=>by rw[V];exact qe hi
  clear hS ph hN ih hY hJ fd hA hf q5 R hlk sm V;refine V4 func172 rfl trivial ?_ rfl;simp only[ntmps172,CV,eL,nX,Nat.reduceAdd,Nat.reduceSub,QG,QH,Q0,QN,LY,IN];gi_wp2;clear e0 p5;gi_loopw [18] (λi wr=>∃j:Nat,j<=m/\i=.int I j/\Hid (LSt H wr n1 b off n cap L ZR l (K j).1)/\Hid (ZP (pre++(K j).2) wr)) (λi _=>m - (intOf i).toNat);case atStart=>exact⟨0,by omega,rfl,by rw[n9.out];exact HS,by rw[n9.out,WK];exact Fd⟩
  case round =>
   obtain⟨j,hj,rfl,g,mv⟩:=hrel;by_cases DQ:j<m
   ·obtain⟨lb,lo,rfl,ZK⟩:=(HL.aa g.low ly).resolve_left (by omega);obtain⟨d0,d1,d2,d3⟩:=ZK.2 j DQ;clear ZK;have P:=ur.out j;have O:=HA.out p D j (by have:=HM.out;omega);generalize (f p).D j=x at d0 d1 d2 d3 P O;have ZL:=ae P;clear P;have B:=ae (g.aa (br.alloc ly (J #[.string x.e,.bool x.ask,.bool x.has,.int I x.L] 91)));have J1:=ae (ZJ _ _ _ mv (Itr.u ((q9 wr).alloc ly (J #[.string x.e,.bool x.ask,.bool x.has,.int I x.L] 91)) ly (by have:=g.hL;omega)));have e1:(A wr (J #[.string x.e,.bool x.ask,.bool x.has,.int I x.L] 91)).cell? (Q (N (U wr)) 1 Y)=T (.bool x.ask):=by simp
    have e3:(A wr (J #[.string x.e,.bool x.ask,.bool x.has,.int I x.L] 91)).cell? (Q (N (U wr)) 3 Y)=T (.int I x.L):=by simp
    have qr:=ae O;clear O;gi_upto_region 4 with fail;clear d0 d1 d2 d3;generalize World.alloc wr _=u at B J1 e1 e3 ⊢;generalize (N (U wr))=X at e1 e3 ⊢;cases hask:x.ask with
    |false =>
     have c:K (j+1)=K j:=by rw[ZL.out,gM (by rw[hask];simp)]
     have o:=ae c;clear c;rw[hask] at e1;have th:∀f,Fence.wide.fn f=True:=λ_=>rfl;gi_quiet (fail);have ZO:=ae (B.aa (BM (q9 u) nq));have J2:=ae (ZJ _ _ _ J1 (Itr.u (BM (q9 u) nq) ly (by have:=B.hL;omega)));gi_wp2;exact⟨⟨j+1,by omega,by go_num,by rw[o.out];exact ZO,by rw[o.out];exact J2⟩,by simp[intOf];omega⟩
    |true =>
     obtain⟨q,hq⟩:∃q:Nat,x.L=(q:Int):=⟨x.L.toNat,by have:=(qr hask).2;omega⟩
     have hqp:q<p:=by have:=(qr hask).1;rw[hq] at this;simpa using this
     rw[hq] at e3;rw[hask] at e1;have f1:=B.c1;obtain⟨f2,_⟩:=B.row q (by omega);have hq0:(0:Int)<=q:=by omega
     have hqn:(q:Int)<n:=by omega
     have th:∀f,Fence.wide.fn f=True:=λ_=>rfl;cases hl:(K j).1 q with
     |true =>
      have c:K (j+1)=K j:=by rw[ZL.out,gM (by rw[hq];simp[hl])]
      have o:=ae c;clear c;rw[hl] at f2;gi_quiet (fail);have ZO:=ae (B.aa (BM (q9 u) nq));have J2:=ae (ZJ _ _ _ J1 (Itr.u (BM (q9 u) nq) ly (by have:=B.hL;omega)));gi_wp2;exact⟨⟨j+1,by omega,by go_num,by rw[o.out];exact ZO,by rw[o.out];exact J2⟩,by simp[intOf];omega⟩
     |false =>
      have c:K (j+1)=((lst f k q (d+1) (K j).1).1,(K j).2++(lst f k q (d+1) (K j).1).2):=by rw[ZL.out,p6 ⟨hask,by rw[hq];simpa using hl⟩,hq];simp
      have o:=ae c;have aq:=DE.out (j+1) (by omega);rw[c] at aq;have ro:=ae aq;have bt:((d+1:Nat):Int)=(d:Int)+1:=by omega
      have HC:Hid (∀W2 G,LSt H W2 n1 b off n cap L ZR l (K j).1->ZP (pre++(K j).2) W2->CallsIn Fence.wide G Pg 172 #[.pointer (T (Q L 0 Y)),.int I (q:Int),.int I ((d:Int)+1)] W2 λe t =>
        ∃r:Bool,e=ZF (.bool r)/\Hid ((r=ZG/\ZP (pre++(K (j+1)).2) t/\LSt H t n1 b off n cap L ZR l (K (j+1)).1)∨(r=ZA/\∃q,q <+: (K m).2++[(p,d)]/\ZN (pre++q) t))):=by
       intro W2 G h1 h2;have ZQ:(pre++(K j).2)++(lst f k q (d+1) (K j).1).2 <+: E:=by have h3:=HN.out;rw[F.out] at h3;obtain⟨z,hz⟩:=h3;obtain⟨y,S⟩:=ro.out;exact⟨y++[(p,d)]++z,by rw[<-hz];simp only[];rw[<-S];simp⟩
       have h:=Bk.out q (d+1) (K j).1 (pre++(K j).2) W2 G (by omega) (by omega) (by omega) h1 hl h2 ZQ;rw[bt] at h;refine h.mono λe t h=>?_;rcases h with ⟨he,hj,hs⟩|⟨he,q',Fk,hx⟩
       ·exact⟨ZG,he,.inl ⟨rfl,by rw[o.out,<-OV];exact hj,by rw[o.out];exact hs⟩⟩
       ·refine⟨ZA,he,.inr ⟨rfl,(K j).2++q',?_,by rw[<-OV];exact hx⟩⟩
        obtain⟨z,hz⟩:=Fk;obtain⟨y,S⟩:=ro.out;exact⟨z++y++[(p,d)],by rw[<-S,<-hz];simp⟩
      have DH:=ae (B.aa ((q9 u).drew));have DS:=ae (ZJ _ _ _ J1 (Itr.u (q9 u).drew ly (by have:=B.hL;omega)));have hwr:IntKind.i64.wrap ((d:Int)+1)=(d:Int)+1:=by rw[p9];omega
      clear c aq;rw[hl] at f2;gi_region_with ((try refine⟨λh=>(by cases h),?_⟩);gi_at_call 172;refine(HC _ _ ?_ ?_).mono ?_;(first|exact DH|exact B);(first|exact DS|exact J1);rintro e W3 ⟨r,rfl,H3⟩);all_goals
       cases r with
       |true =>have h3:=H3.resolve_right (λh=>by cases h.1);have S3:=ae h3.2.2;have J3:=ae h3.2.1;clear h3 H3;gi_wp2;exact⟨⟨j+1,by omega,by go_num,S3,J3⟩,by simp[intOf];omega⟩
       |false =>have h3:=H3.resolve_left (λh=>by cases h.1);have X3:=ae h3.2;clear h3 H3;gi_wp2;go_ret;rw[F.out];exact .inr ⟨rfl,X3⟩
   ·have e:m=j:=by omega
    subst e;have ZO:=ae (g.set D);have J2:=ae (ZJ _ _ _ mv (Itr.setCell wr (p:=(Q ZR p Y)) g.hM.1 g.tyM (.bool ZG)));have ZQ:(pre++(K m).2)++[(p,d)] <+: E:=by have h3:=HN.out;rw[F.out] at h3;simpa using h3
    have At:=HY.out (G - 1) (pre++(K m).2) (p,d) _ D J2 ZQ (by have:=g.hL;simp;omega);obtain⟨fn,tmps,assign,body,S,hR⟩:=At;dsimp only at S;have HR:=ae hR;clear hR;have g1:=g.c1;obtain⟨g3,g4⟩:=g.row p D;have g2:=ZO.c2;have hp0:(0:Int)<=p:=by omega
    have hpn':(p:Int)<n:=by omega
    gi_wp2;refine⟨λh=>(by cases h),HR.mono ?_⟩;rintro e W3 (⟨rfl,dg,la⟩|⟨rfl,ld⟩);{have J3:=ae dg;have S3:=ae (ZO.upd hT la);clear dg la;gi_wp2;go_ret;rw[F.out];exact .inl ⟨rfl,by rw[<-OV];exact J3,S3⟩};{have X3:=ae ld;clear ld;gi_wp2;go_ret;rw[F.out];exact .inr ⟨rfl,_,WJ,by rw[<-OV];exact X3⟩}
attribute [local go_sem] TO
theorem Ey (i:F.depth=Y){g:Nat}{f:FuncId}{tmps:Array ZC}{assign body:Code}{w:M}
  (h:RoundIn F m P l f tmps assign body w R):RoundIn F g P l f tmps assign body w R:=⟨h.1,λc b _=>h.2 c b (λd h=>by rw[i] at h;cases h)⟩
theorem Ez (f:F.depth=Y)(c:Nat){args:Array ZC}(h:YieldAt F m P l args W R):YieldAt F c P l args W R:=by obtain⟨fn,tmps,assign,body,b,hR⟩:=h;exact⟨fn,tmps,assign,body,b,Ey f hR⟩
theorem EC:(Pg.info? 4).map (λi=>(i.zero,i.size,i.bytes))=T (T (.bool ZA),1,1):=by kernel_rfl
def bo (n:Nat):Array ZC:=madeCells (Value.bool ZA).cells n
theorem BH (n:Nat)(hn:n<=1048576)(w:M):(Instr.makeSlice 106 (.int I (n:Int)) (.int I (n:Int))).run Pg w=.ok (Z (T (Q (N (U w)) 0 Y)) n n) (w.alloc (J (bo n) 4)):=by obtain⟨i,hi,hz⟩:=OQ.1 EC;simp only[LN] at hz;obtain⟨h1,h2,h3⟩:=hz;have h:=run_make (P:=Pg) w 106 4 i _ underlying106 hi h1 I I n n (by omega) (Int.le_refl _) (by rw[h3];omega) (by omega);rw[h2] at h;simpa[bo] using h
theorem uE (n q:Nat)(h:q<n):(bo n)[q]?=T (.bool ZA):=by unfold bo madeCells;simp[Value.cells,h,Nat.mod_one]
theorem qg (W:M)(n q:Nat)(h:q<n):(W.alloc (J (bo n) 4)).cell? (Q (N (U W)) q Y)=T (.bool ZA)/\(W.alloc (J (bo n) 4)).frozen? (Q (N (U W)) q Y)=ZA:=by
 have e:=nL W (J (bo n) 4);refine⟨?_,?_⟩;{rw[cell_of_row _ _ _ _ _ _ e];exact uE n q h};{unfold World.frozen?;rw[e];simp}
theorem ED{f:M}(c:Below (N (U f)) f W):LSt f ((W.alloc (J (bo n) 4)).alloc (J #[Z (T (Q b off Y)) n cap,Z (T (Q (N (U W)) 0 Y)) n n,.func (.yield l) #[] #[]] 246)).drew (N (U W)) b off n cap (N (U W)+1) (N (U W)) l (λ_=>ZA):=by
 have hz:(W.alloc (J (bo n) 4)).heap.size=N (U W)+1:=by simp
 have D:Below (N (U W)+1) (W.alloc (J (bo n) 4)) ((W.alloc (J (bo n) 4)).alloc (J #[Z (T (Q b off Y)) n cap,Z (T (Q (N (U W)) 0 Y)) n n,.func (.yield l) #[] #[]] 246)).drew:=(br.alloc (by omega) _).drew;refine⟨?_,?_,?_,λq g=>?_,((c.alloc c.size _).alloc (by simp;have:=c.size;omega) _).drew,by simp,by simp;omega,by omega,c.size,?_,?_⟩;{simp};{simp};{simp};{exact⟨(D.cell (p:=(Q (N (U W)) q Y)) (AI _)).trans (qg W n q g).1,(D.frozen (p:=(Q (N (U W)) q Y)) (AI _)).trans (qg W n q g).2⟩};{exact(OfTy.new W _ _).eq (D.block _ (AI _))};{have h:=OfTy.new (W.alloc (J (bo n) 4)) #[Z (T (Q b off Y)) n cap,Z (T (Q (N (U W)) 0 Y)) n n,.func (.yield l) #[] #[]] 246;rw[hz] at h;exact h.eq rfl}
theorem EE{f:M}(c:Below (N (U f)) f W):LSt f ((A W (J #[Z (T (Q b off Y)) n cap,Z (T (Q (N (U W)+1) 0 Y)) n n,.func (.yield l) #[] #[]] 246)).alloc (J (bo n) 4)).drew (N (U W)) b off n cap (N (U W)) (N (U W)+1) l (λ_=>ZA):=by
 have hz:(A W (J #[Z (T (Q b off Y)) n cap,Z (T (Q (N (U W)+1) 0 Y)) n n,.func (.yield l) #[] #[]] 246)).heap.size=N (U W)+1:=by simp
 have D:Below (N (U W)+1) (A W (J #[Z (T (Q b off Y)) n cap,Z (T (Q (N (U W)+1) 0 Y)) n n,.func (.yield l) #[] #[]] 246)) ((A W (J #[Z (T (Q b off Y)) n cap,Z (T (Q (N (U W)+1) 0 Y)) n n,.func (.yield l) #[] #[]] 246)).alloc (J (bo n) 4)).drew:=(br.alloc (by omega) _).drew;refine⟨(D.cell (p:=(Q (N (U W)) 0 Y)) (AI _)).trans (by simp),(D.cell (p:=(Q (N (U W)) 1 Y)) (AI _)).trans (by simp),(D.cell (p:=(Q (N (U W)) 2 Y)) (AI _)).trans (by simp),λq g=>?_,((c.alloc c.size _).alloc (by simp;have:=c.size;omega) _).drew,by simp;omega,by simp,by omega,c.size,?_,?_⟩;{have h:=qg (A W (J #[Z (T (Q b off Y)) n cap,Z (T (Q (N (U W)+1) 0 Y)) n n,.func (.yield l) #[] #[]] 246)) n q g;rw[hz] at h;exact h};{have h:=OfTy.new (A W (J #[Z (T (Q b off Y)) n cap,Z (T (Q (N (U W)+1) 0 Y)) n n,.func (.yield l) #[] #[]] 246)) (bo n) 4;rw[hz] at h;exact h.eq rfl};{exact(OfTy.new W _ _).eq (D.block _ (AI _))}
theorem qi (v:ZC)(w:M)(b:Nat):CallsIn Fence.wide b Pg 117 #[.agg #[v]] w λe c=>e=ZF (.func (.func 171) #[] #[.pointer (T (Q (N (U w)) 0 Y))])/\c=A w (J #[v] 37):=by refine V4 func117 rfl trivial ?_ rfl;simp only[ntmps117,CV,eL,nX,Nat.reduceAdd,Nat.reduceSub,QG,QH,Q0,QN,LY,IN];gi_wp2;go_ret;exact⟨rfl,rfl⟩
theorem uF (hT:ZM≠4/\ZM≠246)(g:M)(b off n cap o ZS:Nat)(f:Nat->Deed)(w:M)(ZL:gu f n)(hn1:1<=n)(hn:(n:Int)<=400)(hf:RowDeed g b off n f)(hlk:∀p,p<n->(f p).b<=200)(c:Below (N (U g)) g w)(H:w.cell? (Q o 0 Y)=T (Z (T (Q b off Y)) n cap))(u:o<N (U w)):SeqT2 ZM 4 Fence.wide ZS Pg 171 #[.pointer (T (Q o 0 Y))] (λx:Nat × Nat=>#[Value.int I (x.1:Int),Value.int I (x.2:Int)]) (λpre x=>x.1<n/\pre++[x] <+: aC f n) (N (U g)) (λj=>j=aC f n) (λpre=>pre <+: aC f n) w:=by
 intro l ZP ZQ W B hJ C S z;have hl:=Hn hT g (N (U W)) b off n cap;have G:=ae hl;clear hl;have hB:=(B.cell (p:=(Q o 0 Y)) u).trans H;have X:=λw=>BH n (by omega) w;have hwb:IntKind.i64.wrap ((n:Int) - 1)=(n:Int) - 1:=by rw[p9];omega
 have ZO:=ae hJ;have E:=ae C;have R:=ae S;have H0:=ae z;have ZN:=ae ZL;have ZJ:=ae hf;have D:=ae hlk;have i:=ae (c.trans (B.mono c.size));have aq:o<N (U W):=lj u B.size;clear hJ C S z ZL hf hlk c B H u;refine V4 func171 rfl trivial ?_ rfl;simp only[ntmps171,CV,eL,nX,Nat.reduceAdd,Nat.reduceSub,QG,QH,Q0,QN,LY,IN];have F:∀L ZR y,LSt g y (N (U W)) b off n cap L ZR l (λ_=>ZA)->Below (N (U W)) W y->CallsIn Fence.wide (ZS - 1) Pg 172 #[.pointer (T (Q L 0 Y)),.int I ((n:Int) - 1),.int I 0] y λe s =>
   ∃r:Bool,e=ZF (.bool r)/\Hid ((∃j,j=aC f n/\ZP j s)∨(∃pre,pre <+: aC f n/\ZQ pre s)):=by
  intro L ZR y O V;have h:=G.out L ZR l (aC f n) f ZP ZQ ZN hn ZJ D ZO E (λm pre x W1 z h1 h2 h3=>Ez rfl m (R pre x W1 ⟨z,h2⟩ h1 h3)) n (n - 1) 0 (λ_=>ZA) [] y (ZS - 1) (by omega) (by omega) (by omega) O rfl (ZO _ _ _ H0 (Itr.u V ly  ly)) (by simp[aC]);rw[show((n - 1:Nat):Int)=(n:Int) - 1 by omega] at h;refine h.mono λe s h=>?_;rcases h with ⟨K,hj,_⟩|⟨K,q,hq,hx⟩
  ·exact⟨ZG,K,.inl ⟨_,rfl,by simpa[aC] using hj⟩⟩
  ·exact⟨ZA,K,.inr ⟨q,hq,by simpa using hx⟩⟩
 have t:=ae F;have D1:=ae (((q9 W).alloc ly (J (bo n) 4)).alloc (by simp) (J #[Z (T (Q b off Y)) n cap,Z (T (Q (N (U W)) 0 Y)) n n,.func (.yield l) #[] #[]] 246)).drew;have ZK:=ae (((q9 W).alloc ly (J #[Z (T (Q b off Y)) n cap,Z (T (Q (N (U W)+1) 0 Y)) n n,.func (.yield l) #[] #[]] 246)).alloc (by simp) (J (bo n) 4)).drew;have hfw:∀f,Fence.wide.fn f=True:=λ_=>rfl;clear F G ZO E R H0 ZN ZJ D;gi_upto_region 0 with fail;gi_cut [3] from 4 (λs3 wx=>∃L,s3=.pointer (T (Q L 0 Y))/\Hid (∃ZR,LSt g wx (N (U W)) b off n cap L ZR l (λ_=>ZA))/\Hid (Below (N (U W)) W wx));case first =>
  have hsf:=λ(w:M) (a:Addr) (m:Mode)=>run_store Pg w a (.func (.yield l) #[] #[]) m rfl;gi_region_with fail;all_goals
   gi_wp2_with fail;gi_meet;first
    |exact⟨N (U W)+1,rfl,⟨N (U W),ED i⟩,D1⟩
    |exact⟨N (U W),rfl,⟨N (U W)+1,EE i⟩,ZK⟩
 case rest =>
 obtain⟨L,rfl,HS,P⟩:=hcut;have hB1:=(P.cell (p:=(Q o 0 Y)) aq).trans hB;have HC:Hid (CallsIn Fence.wide (ZS - 1) Pg 172 #[.pointer (T (Q L 0 Y)),.int I ((n:Int) - 1),.int I 0] wc λe s=>∃r:Bool,e=ZF (.bool r)/\Hid ((∃j,j=aC f n/\ZP j s)∨(∃pre,pre <+: aC f n/\ZQ pre s))):=by obtain⟨ZR,O⟩:=HS.out;exact t L ZR wc O P
 clear t HS X P i D1 ZK hB;gi_wp2_with ((try refine⟨λh=>(by cases h),?_⟩);gi_at_call 172;refine HC.mono ?_;rintro e W3 ⟨r,rfl,H3⟩);go_end0;exact⟨⟨_,rfl⟩,H3⟩
theorem oB (c:M)(b off n cap g m:Nat)(f:Nat->Deed)(w:M)(q:gu f n)(hn1:1<=n)(hn:(n:Int)<=400)(r:RowDeed c b off n f)(hlk:∀p,p<n->(f p).b<=200)(i:Below (N (U c)) c w)(j:w.cell? (Q g 0 Y)=T (Z (T (Q b off Y)) n cap))(l:g<N (U w)):DV Fence.wide m Pg 171 #[.pointer (T (Q g 0 Y))] (λx:Nat × Nat=>#[Value.int I (x.1:Int),Value.int I (x.2:Int)]) (λx=>x.1<n) (N (U c)) (λo=>o=aC f n) (λpre=>pre <+: aC f n) (aC f n).length w :=
 (uF (ZM:=46) ⟨by decide,by decide⟩ c b off n cap g m f w q hn1 hn r hlk i j l).plain λpre x h=>⟨h.1,by have:=h.2.length_le;simp at this;omega⟩
attribute [local go_sem] TO
theorem qj (h:bA i pre=-1):bA i (pre++[x])=if x.1=i+pre.length then -1 else ((i+pre.length:Nat):Int):=by
 induction pre generalizing i with
 |nil=>simp[bA]
 |cons y b c =>
  simp only[bA,IN] at h ⊢;split at h
  ·rename_i e;rw[p6 e,c h];simp only[eL];have:i+1+b.length=i+(b.length+1):=by omega
   rw[this]
  {omega}
theorem uG{b:List (Nat × Nat)}(f:pre <+: b)(h:bA i pre≠-1):bA i b=bA i pre:=by
 induction pre generalizing i b with
 |nil=>exact absurd rfl h
 |cons y ys c =>
  obtain⟨t,rfl⟩:=f;simp only[bA,IN] at h ⊢;split;{rename_i e;rw[p6 e] at h;exact c (WZ _ _) h};{rfl}
theorem xd (h:aZ f pre=-1):aZ f (pre++[x])=if (f x.1).m=3/\60<=x.2 then (x.1:Int) else -1:=by
 induction pre with
 |nil=>simp[aZ]
 |cons y ys b =>
  simp only[aZ,IN] at h ⊢;split at h;{omega};{rename_i e;rw[gM e,b h]}
theorem tH{b:List (Nat × Nat)}(g:pre <+: b)(h:aZ f pre≠-1):aZ f b=aZ f pre:=by
 induction pre generalizing b with
 |nil=>exact absurd rfl h
 |cons y ys c =>
  obtain⟨t,rfl⟩:=g;simp only[aZ,IN] at h ⊢;split;{rfl};{rename_i e;rw[gM e] at h;exact c (WZ _ _) h}
structure Kc (W:M)(h:Nat)(v:ZC):Prop where
 size:N (U W)=h+4
 r:W.cell? (Q (h+1) 0 Y)=T (.int I 0)/\W.frozen? (Q (h+1) 0 Y)=ZA
 t:W.cell? (Q (h+1+1) 0 Y)=T (.int I 0)/\W.frozen? (Q (h+1+1) 0 Y)=ZA
 a:W.cell? (Q (h+1+1+1) 0 Y)=T v
 a0:W.cell? (Q h 0 Y)=T v
theorem zB (w:M)(v:ZC)(t u:ZI):Kc ((((A w (J #[v] t)).alloc (J #[.int I 0] u)).alloc (J #[.int I 0] u)).alloc (J #[v] t)) (N (U w)) v:=by
 have b:(A w (J #[v] t)).heap.size=N (U w)+1:=by simp
 have c:((A w (J #[v] t)).alloc (J #[.int I 0] u)).heap.size=N (U w)+1+1:=by simp
 have f:(((A w (J #[v] t)).alloc (J #[.int I 0] u)).alloc (J #[.int I 0] u)).heap.size=N (U w)+1+1+1:=by simp
 have i:Below (N (U w)+1) (A w (J #[v] t)) ((((A w (J #[v] t)).alloc (J #[.int I 0] u)).alloc (J #[.int I 0] u)).alloc (J #[v] t)):=((br.alloc (by omega) _).alloc (by omega) _).alloc (by omega) _;have h:Below (N (U w)+1+1) ((A w (J #[v] t)).alloc (J #[.int I 0] u)) ((((A w (J #[v] t)).alloc (J #[.int I 0] u)).alloc (J #[.int I 0] u)).alloc (J #[v] t)):=(br.alloc (by omega) _).alloc (by omega) _;have g:Below (N (U w)+1+1+1) (((A w (J #[v] t)).alloc (J #[.int I 0] u)).alloc (J #[.int I 0] u)) ((((A w (J #[v] t)).alloc (J #[.int I 0] u)).alloc (J #[.int I 0] u)).alloc (J #[v] t)):=br.alloc (by omega) _;refine⟨by simp,⟨?_,?_⟩,⟨?_,?_⟩,?_,(i.cell (p:=(Q (N (U w)) 0 Y)) (AI _)).trans (by simp)⟩;{refine(h.cell (p:=(Q (N (U w)+1) 0 Y)) (AI _)).trans ?_;rw[<-b];clear i h g b c f;generalize A w (J #[v] t)=W;simp};{refine(h.frozen (p:=(Q (N (U w)+1) 0 Y)) (AI _)).trans ?_;rw[<-b];clear i h g b c f;generalize A w (J #[v] t)=W;simp};{refine(g.cell (p:=(Q (N (U w)+1+1) 0 Y)) (AI _)).trans ?_;rw[<-c];clear i h g b c f;generalize (A w (J #[v] t)).alloc (J #[.int I 0] u)=W;simp};{refine(g.frozen (p:=(Q (N (U w)+1+1) 0 Y)) (AI _)).trans ?_;rw[<-c];clear i h g b c f;generalize (A w (J #[v] t)).alloc (J #[.int I 0] u)=W;simp};{rw[<-f];clear i h g b c f;generalize ((A w (J #[v] t)).alloc (J #[.int I 0] u)).alloc (J #[.int I 0] u)=W;simp}
theorem tI (b off n cap:Nat)(f:Nat->Deed)(w:M)(ZL:gu f n)(hn1:1<=n)(hn:(n:Int)<=400)(H:RowDeed w b off n f)(hlk:∀p,p<n->(f p).b<=200)(hlen:(aC f n).length<=400):Calls Pg 150 #[.agg #[Z (T (Q b off Y)) n cap]] w λe V=>e=ZF (.int I (bA 0 (aC f n)))/\Below (N (U w)) w V:=by
 refine(VB (n:=3)).1 ?_;have HF:=ae H;have HA:=ae ZL;have X:=ae hlk;clear H ZL hlk;have ZP:=((((q9 w).alloc ly (J #[Z (T (Q b off Y)) n cap] 37)).alloc (by simp) (J #[.int I 0] 3)).alloc (by simp;omega) (J #[.int I 0] 3)).alloc (by simp;omega) (J #[Z (T (Q b off Y)) n cap] 37);have ZN:=ae ZP;clear ZP;have G:=ae (zB w (Z (T (Q b off Y)) n cap) 37 3);refine callsIn_of_wp_marks func150 rfl trivial ?_ rfl;simp only[ntmps150,CV,eL,nX,Nat.reduceAdd,Nat.reduceSub,QG,QH,Q0,QN,LY,IN];gi_wp2_with (refine⟨trivial,?_⟩;gi_at_call 117;refine(qi _ _ _).mono ?_;rintro e V ⟨rfl,rfl⟩);generalize World.alloc (World.alloc (World.alloc (World.alloc w _) _) _) _=W at ZN G ⊢;have hsz:=G.size;obtain⟨ZQ,ZR⟩:=G.r;obtain⟨ZO,O⟩:=G.t;refine jL (F:=Fence.wide) rfl (by omega) (gf:=171) (lb:=#[.pointer (T (Q (N (U w)+1+1+1) 0 Y))]) rfl trivial (enters_of func171 (by kernel_rfl) rfl) (base:=N (U w)) (by omega)
  (oB w b off n cap (N (U w)+1+1+1) (3 - 1) f W HA hn1 hn HF X ZN G.a (by omega)) br (λ_=>rfl)
  (λpre j=>j.cell? (Q (N (U w)+1+1) 0 Y)=T (.int I (pre.length:Int))/\j.frozen? (Q (N (U w)+1+1) 0 Y)=ZA/\j.cell? (Q (N (U w)+1) 0 Y)=T (.int I 0)/\j.frozen? (Q (N (U w)+1) 0 Y)=ZA/\Hid (bA 0 pre=-1)/\Hid (Below (N (U w)) w j))
  (λc pre j=>c=.ret/\j.cell? (Q (N (U w)+1) 0 Y)=T (.int I (bA 0 pre))/\Hid (bA 0 pre≠-1)/\Hid (Below (N (U w)) w j))
  (λs ZS B h i=>⟨(i.cell (p:=(Q (N (U w)+1+1) 0 Y)) (by show (N (U w))+1+1<N (U W);omega)).trans h.1,(i.frozen (p:=(Q (N (U w)+1+1) 0 Y)) (by show (N (U w))+1+1<N (U W);omega)).trans h.2.1,(i.cell (p:=(Q (N (U w)+1) 0 Y)) (by show (N (U w))+1<N (U W);omega)).trans h.2.2.1,(i.frozen (p:=(Q (N (U w)+1) 0 Y)) (by show (N (U w))+1<N (U W);omega)).trans h.2.2.2.1,h.2.2.2.2.1,h.2.2.2.2.2.trans (i.mono (by omega))⟩)
  (λc s ZS B h i=>⟨h.1,(i.cell (p:=(Q (N (U w)+1) 0 Y)) (by show (N (U w))+1<N (U W);omega)).trans h.2.1,h.2.2.1,h.2.2.2.trans (i.mono (by omega))⟩)
  ⟨ZO,O,ZQ,ZR,rfl,ZN⟩
  (λx=>{ tmps:=#[.agg #[Z (T (Q b off Y)) n cap],.pointer (T (Q (N (U w)) 0 Y)),.pointer (T (Q (N (U w)+1) 0 Y)),.pointer (T (Q (N (U w)+1+1) 0 Y)),.int I (x.1:Int),.agg #[Z (T (Q b off Y)) n cap],.func (.func 171) #[] #[.pointer (T (Q (N (U w)+1+1+1) 0 Y))],.int I (x.1:Int),.int I (x.2:Int),undef,undef,undef,undef,undef,undef],defers:=[] }) ?assign ?body ?done ?stop
 case assign =>intro l x W K o;gi_wp2;exact o
 case body =>
  rintro l pre x g _ ⟨hc,H,q,L,u,y⟩ hlt hz;clear ZQ ZR ZO O;have hpl:(pre.length:Int)<=1048576:=by omega
  by_cases hx:(x.1:Int)=(pre.length:Int)
  ·have D:bA 0 (pre++[x])=-1:=by rw[qj u.out,p6 (by omega)]
   have m:=ae D;clear D;have ZM:=ae (Upd.setCell (P:=λk=>N (U w)<=k/\k<N (U W)) g (p:=(Q (N (U w)+1+1) 0 Y)) ⟨by show _<=_+1+1;omega,by show _+1+1<_;omega⟩ (.int I ((pre.length:Int)+1)));have z:=ae (y.setCell (p:=(Q (N (U w)+1+1) 0 Y)) (by show _<=_+1+1;omega) (.int I ((pre.length:Int)+1)));have c1:(g.setCell (Q (N (U w)+1+1) 0 Y) (.int I ((pre.length:Int)+1))).cell? (Q (N (U w)+1+1) 0 Y)=T (.int I ((pre++[x]).length:Int)):=by rw[CX _ _ _ (by rw[hc];rfl)];simp
   have c2:(g.setCell (Q (N (U w)+1+1) 0 Y) (.int I ((pre.length:Int)+1))).cell? (Q (N (U w)+1) 0 Y)=T (.int I 0):=by rw[sq _ _ _ _ (by simp)];exact q
   have C:=ae c1;have C2:=ae c2;clear c1 c2;gi_wp2;exact⟨ZM,C,by simpa using H,C2,by simpa using L,m,z⟩
  ·have D:bA 0 (pre++[x])=(pre.length:Int):=by rw[qj u.out,gM (by omega)];simp
   have m:=ae D;clear D;have ZM:=ae (Upd.setCell (P:=λk=>N (U w)<=k/\k<N (U W)) g (p:=(Q (N (U w)+1) 0 Y)) ⟨by show _<=_+1;omega,by show _+1<_;omega⟩ (.int I (pre.length:Int)));have z:=ae (y.setCell (p:=(Q (N (U w)+1) 0 Y)) (by show _<=_+1;omega) (.int I (pre.length:Int)));have C:=ae (CX g (Q (N (U w)+1) 0 Y) (.int I (pre.length:Int)) (by rw[q];rfl));gi_wp2;exact⟨ZM,rfl,by rw[m.out];exact C,by show _≠_;rw[m.out];omega,z⟩
 case done =>rintro ZK ys g S rfl ⟨_,_,q,L,u,y⟩ o;have ZJ:=ae ((KeepsOthers.setCell g (Q (N (U w)+1) 0 Y) (.int I (-1))).same ZK _ o rfl);have z:=ae (y.setCell (p:=(Q (N (U w)+1) 0 Y)) (by show _<=_+1;omega) (.int I (-1)));have C:=ae (CX g (Q (N (U w)+1) 0 Y) (.int I (-1)) (by rw[q];rfl));gi_wp2;refine⟨by simp,.inl ⟨_,_,rfl,run_takeDeferred ZJ,?_⟩⟩;have E:=da (n:=N (U W)) (g.setCell (Q (N (U w)+1) 0 Y) (.int I (-1))) S (eT.1 ZJ).1 (.deferred Y);have c:=(E.cell (p:=(Q (N (U w)+1) 0 Y)) (by show (N (U w))+1<N (U W);omega)).trans C;exact⟨.int I (-1),by simp[results,results150,go_sem,c],by rw[u.out],z.trans (E.mono (by omega))⟩
 case stop =>rintro ZK c pre g S R ⟨rfl,q,u,y⟩ o;gi_wp2;refine⟨by simp,.inl ⟨_,_,rfl,run_takeDeferred o,?_⟩⟩;have E:=da (n:=N (U W)) g S (eT.1 o).1 (.deferred Y);have c:=(E.cell (p:=(Q (N (U w)+1) 0 Y)) (by show (N (U w))+1<N (U W);omega)).trans q;exact⟨.int I (bA 0 pre),by simp[results,results150,go_sem,c],by rw[uG R u.out],y.trans (E.mono (by omega))⟩
structure Kd (W:M)(h:Nat)(v:ZC):Prop where
 size:N (U W)=h+3
 r:W.cell? (Q (h+1) 0 Y)=T (.int I 0)/\W.frozen? (Q (h+1) 0 Y)=ZA
 a:W.cell? (Q (h+1+1) 0 Y)=T v
 a0:W.cell? (Q h 0 Y)=T v
theorem zC (w:M)(v:ZC)(t u:ZI):Kd (((A w (J #[v] t)).alloc (J #[.int I 0] u)).alloc (J #[v] t)) (N (U w)) v:=by
 have b:(A w (J #[v] t)).heap.size=N (U w)+1:=by simp
 have c:((A w (J #[v] t)).alloc (J #[.int I 0] u)).heap.size=N (U w)+1+1:=by simp
 have g:Below (N (U w)+1) (A w (J #[v] t)) (((A w (J #[v] t)).alloc (J #[.int I 0] u)).alloc (J #[v] t)):=(br.alloc (by omega) _).alloc (by omega) _;have f:Below (N (U w)+1+1) ((A w (J #[v] t)).alloc (J #[.int I 0] u)) (((A w (J #[v] t)).alloc (J #[.int I 0] u)).alloc (J #[v] t)):=br.alloc (by omega) _;refine⟨by simp,⟨?_,?_⟩,?_,(g.cell (p:=(Q (N (U w)) 0 Y)) (AI _)).trans (by simp)⟩;{refine(f.cell (p:=(Q (N (U w)+1) 0 Y)) (AI _)).trans ?_;rw[<-b];clear g f b c;generalize A w (J #[v] t)=W;simp};{refine(f.frozen (p:=(Q (N (U w)+1) 0 Y)) (AI _)).trans ?_;rw[<-b];clear g f b c;generalize A w (J #[v] t)=W;simp};{rw[<-c];clear g f b c;generalize (A w (J #[v] t)).alloc (J #[.int I 0] u)=W;simp}
theorem xe (b off n cap:Nat)(f:Nat->Deed)(w:M)(R:gu f n)(hn1:1<=n)(hn:(n:Int)<=400)(ZM:RowDeed w b off n f)(hlk:∀p,p<n->(f p).b<=200):Calls Pg 151 #[.agg #[Z (T (Q b off Y)) n cap]] w λe ZL=>e=ZF (.int I (aZ f (aC f n)))/\Below (N (U w)) w ZL:=by
 refine(VB (n:=3)).1 ?_;have S:=ae ZM;have HA:=ae R;have V:=ae hlk;clear ZM R hlk;obtain⟨W,C⟩:∃W:M,((A w (J #[Z (T (Q b off Y)) n cap] 37)).alloc (J #[.int I 0] 3)).alloc (J #[Z (T (Q b off Y)) n cap] 37)=W:=⟨_,rfl⟩
 obtain⟨t,-,-,-,-⟩:=nb3 C;replace t:=t.out;have ZQ:=ae C;clear C;have X:=ae t;clear t;have E:=ae (zC w (Z (T (Q b off Y)) n cap) 37 3);refine callsIn_of_wp_marks func151 rfl trivial ?_ rfl;simp only[ntmps151,CV,eL,nX,Nat.reduceAdd,Nat.reduceSub,QG,QH,Q0,QN,LY,IN];gi_wp2_with (refine⟨trivial,?_⟩;gi_at_call 117;refine(qi _ _ _).mono ?_;rintro e ZL ⟨rfl,rfl⟩);rw[ZQ.out] at E ⊢;clear ZQ;have hsz:=E.size;obtain⟨G,H⟩:=E.r;have ZJ:=E.a0;refine jL (F:=Fence.wide) rfl (by omega) (gf:=171) (lb:=#[.pointer (T (Q (N (U w)+1+1) 0 Y))]) rfl trivial (enters_of func171 (by kernel_rfl) rfl) (base:=N (U w)) (by omega)
  (oB w b off n cap (N (U w)+1+1) (3 - 1) f W HA hn1 hn S V X E.a (by omega)) br (λ_=>rfl)
  (λpre q=>q.cell? (Q (N (U w)) 0 Y)=T (Z (T (Q b off Y)) n cap)/\q.cell? (Q (N (U w)+1) 0 Y)=T (.int I 0)/\q.frozen? (Q (N (U w)+1) 0 Y)=ZA/\Hid (aZ f pre=-1)/\Hid (Below (N (U w)) w q))
  (λc pre q=>c=.ret/\q.cell? (Q (N (U w)+1) 0 Y)=T (.int I (aZ f pre))/\Hid (aZ f pre≠-1)/\Hid (Below (N (U w)) w q))
  (λs ZS B h o=>⟨(o.cell (p:=(Q (N (U w)) 0 Y)) (by show (N (U w))<N (U W);omega)).trans h.1,(o.cell (p:=(Q (N (U w)+1) 0 Y)) (by show (N (U w))+1<N (U W);omega)).trans h.2.1,(o.frozen (p:=(Q (N (U w)+1) 0 Y)) (by show (N (U w))+1<N (U W);omega)).trans h.2.2.1,h.2.2.2.1,h.2.2.2.2.trans (o.mono (by omega))⟩)
  (λc s ZS B h o=>⟨h.1,(o.cell (p:=(Q (N (U w)+1) 0 Y)) (by show (N (U w))+1<N (U W);omega)).trans h.2.1,h.2.2.1,h.2.2.2.trans (o.mono (by omega))⟩)
  ⟨ZJ,G,H,rfl,X⟩
  (λx=>{ tmps:=#[.agg #[Z (T (Q b off Y)) n cap],.pointer (T (Q (N (U w)) 0 Y)),.pointer (T (Q (N (U w)+1) 0 Y)),.int I (x.1:Int),.int I (x.2:Int),.agg #[Z (T (Q b off Y)) n cap],.func (.func 171) #[] #[.pointer (T (Q (N (U w)+1+1) 0 Y))],.int I (x.1:Int),.int I (x.2:Int),undef,undef,undef,undef,undef,undef,undef,undef,undef,undef,undef,undef],defers:=[] }) ?assign ?body ?done ?stop
 case assign =>intro l x W K u;gi_wp2;exact u
 case body =>
  rintro l pre x i ZN ⟨ha,m,z,D,j⟩ hlt hz;clear G H ZJ;obtain⟨_,p1,_⟩:=(S.aa j ly).2 x.1 ZN;have hx0:(0:Int)<=(x.1:Int):=by omega
  have hxn:(x.1:Int)<n:=by omega
  have O:=ae (xd (x:=x) D);have U1:=ae (Upd.setCell (P:=λk=>N (U w)<=k/\k<N (U W)) i (p:=(Q (N (U w)+1) 0 Y)) ⟨by show _<=_+1;omega,by show _+1<_;omega⟩ (.int I (x.1:Int)));have ZP:=ae (j.setCell (p:=(Q (N (U w)+1) 0 Y)) (by show _<=_+1;omega) (.int I (x.1:Int)));have L:=ae (CX i (Q (N (U w)+1) 0 Y) (.int I (x.1:Int)) (by rw[m];rfl));cases h3:((f x.1).m == 3) with
  |false =>
   have g:Hid (aZ f (pre++[x])=-1):=by show _=_;rw[O.out,gM (by intro h;rw[h.1] at h3;simp at h3)]
   gi_wp2;exact⟨Upd.refl _ _,ha,m,z,g,j⟩
  |true =>
   by_cases h6:(60:Int)<=(x.2:Int)
   ·have g:Hid (aZ f (pre++[x])=(x.1:Int)):=by show _=_;rw[O.out,p6 ⟨by simpa using h3,by omega⟩]
    gi_wp2;exact⟨U1,rfl,by rw[g.out];exact L,by show _≠_;rw[g.out];omega,ZP⟩
   ·have g:Hid (aZ f (pre++[x])=-1):=by show _=_;rw[O.out,gM (by intro h;omega)]
    gi_wp2;exact⟨Upd.refl _ _,ha,m,z,g,j⟩
 case done =>rintro ZK ys i ZO rfl ⟨_,m,z,D,j⟩ u;have K1:=ae ((KeepsOthers.setCell i (Q (N (U w)+1) 0 Y) (.int I (-1))).same ZK _ u rfl);have ZP:=ae (j.setCell (p:=(Q (N (U w)+1) 0 Y)) (by show _<=_+1;omega) (.int I (-1)));have L:=ae (CX i (Q (N (U w)+1) 0 Y) (.int I (-1)) (by rw[m];rfl));gi_wp2;refine⟨by simp,.inl ⟨_,_,rfl,run_takeDeferred K1,?_⟩⟩;have y:=da (n:=N (U W)) (i.setCell (Q (N (U w)+1) 0 Y) (.int I (-1))) ZO (eT.1 K1).1 (.deferred Y);have c:=(y.cell (p:=(Q (N (U w)+1) 0 Y)) (by show (N (U w))+1<N (U W);omega)).trans L;exact⟨.int I (-1),by simp[results,results151,go_sem,c],by rw[D.out],ZP.trans (y.mono (by omega))⟩
 case stop =>rintro ZK c pre i ZO ZR ⟨rfl,m,D,j⟩ u;gi_wp2;refine⟨by simp,.inl ⟨_,_,rfl,run_takeDeferred u,?_⟩⟩;have y:=da (n:=N (U W)) i ZO (eT.1 u).1 (.deferred Y);have c:=(y.cell (p:=(Q (N (U w)+1) 0 Y)) (by show (N (U w))+1<N (U W);omega)).trans m;exact⟨.int I (aZ f pre),by simp[results,results151,go_sem,c],by rw[tH ZR D.out],j.trans (y.mono (by omega))⟩
theorem qk (g:Nat->Bool)(n:Nat):aM g n=-1∨0<=aM g n:=by
 induction n with
 |zero=>exact .inl rfl
 |succ k b =>
  rw[aM];split;{split;{exact .inl rfl};{exact .inr (by omega)}};{exact b}
theorem EF (i:Nat)(b:List (Nat × Nat)):bA i b=-1∨0<=bA i b:=by
 induction b generalizing i with
 |nil=>exact .inl rfl
 |cons x b c =>
  rw[bA];split;{exact c _};{exact .inr (by omega)}
theorem sH (f:Nat->Deed)(b:List (Nat × Nat)):aZ f b=-1∨0<=aZ f b:=by
 induction b with
 |nil=>exact .inl rfl
 |cons x b c =>
  rw[aZ];split;{exact .inr (by omega)};{exact c}
theorem pa (h:aM (bi f) n=-1):∀p,p<n->(f p).b<=200:=by
 intro p b;have h1:=fR h p b;simp only[bi,zA,kindOk] at h1;obtain⟨_,h2⟩:=h1;split at h2;{simp[aY] at h2;omega};{split at h2;{simp[aY] at h2;omega};{split at h2;{simp only[cH,zA,z8] at h2;omega};{cases h2}}}
theorem EI (h:aM (bi f) n=-1):∀p,p<n->(f p).e.size<=maxLen:=by intro p b;have h1:=fR h p b;simp only[bi,aw,zA,z8] at h1;unfold maxLen;omega
theorem kU (c:gu f n)(hn:1<=n):(aC f n).length<=n:=by
 have h:=(xO c n (n - 1) 0 (λ_=>ZA) (by omega) (by omega) rfl).num;have h2:=Jd (lst f n (n - 1) 0 (λ_=>ZA)).1 n;have h3:∀k,cnt (λ_=>ZA) k=0:=by
  intro k;induction k with
  |zero=>rfl
  |succ j b=>rw[cnt,b];rfl
 rw[h3] at h;unfold aC;omega
structure Ke (w:M)(b:Nat)(v0 v1 v2 v3:ZC):Prop where
 lt:b<N (U w)
 c0:w.cell? (Q b 0 Y)=T v0
 c1:w.cell? (Q b 1 Y)=T v1
 c2:w.cell? (Q b 2 Y)=T v2
 c3:w.cell? (Q b 3 Y)=T v3
theorem Ho (w:M)(c g f b:ZC)(t:ZI):Ke (A w (J #[c,g,f,b] t)) (N (U w)) c g f b:=⟨by simp,by simp,by simp,by simp,by simp⟩
theorem xf (a:Option Addr)(n cap:Nat)(f:Nat->Deed)(w:M)(hn:(n:Int)<=1048576)(ZL:SlDeed w a n f)(L:(n:Int)<=cap)(B:∀i,i<n->cV (f i))(V:Tab w):Calls Pg 100 #[.agg #[Z a n cap]] w λe ZJ=>e=ZF (.tuple #[.int I (eW f n).1,.int I (eW f n).2])/\Below (N (U w)) w ZJ:=by
 have P:=ae ZL;have HM:=ae B;have R:=ae V;clear ZL B V;have G:=ae ((q9 w).alloc ly (J #[Z a n cap] 37));have ZM:(A w (J #[Z a n cap] 37)).cell? (Q (N (U w)) 0 Y)=T (Z a n cap):=by simp
 obtain⟨c1,c2,q⟩:∃c1 c2,eW f n=(c1,c2):=⟨_,_,rfl⟩
 rw[q];have y:=ae q;clear q;by_cases O:(n:Int)=0
 ·have c:c1=1/\c2=0:=by have:=y.out;unfold eW at this;rw[p6 (.inl (by omega))] at this;simp only[LN] at this;omega
  clear y;obtain⟨c,o⟩:=c;subst c o;obtain rfl:n=0:=by omega
  go_enter func100,ntmps100;go_wp2;go_ret2;exact⟨rfl,G⟩
 by_cases h4:(400:Int)<(n:Int)
 ·have c:c1=1/\c2=0:=by have:=y.out;unfold eW at this;rw[p6 (.inr (by omega))] at this;simp only[LN] at this;omega
  clear y;obtain⟨c,o⟩:=c;subst c o;have S:((n:Int) == 0)=ZA:=by simpa using O
  go_enter func100,ntmps100;go_wp2;go_ret2;exact⟨rfl,G⟩
 have s:Hid ((if aM (bi f) n≠-1 then ((2:Int),aM (bi f) n) else if aM (λp=>bc f p p) n≠-1 then (3,aM (λp=>bc f p p) n) else if bA 0 (aC f n)≠-1 then (4,bA 0 (aC f n)) else if aZ f (aC f n)≠-1 then (5,aZ f (aC f n)) else (0,0))=(c1,c2)):=by have:=y.out;unfold eW at this;rw[gM (by omega)] at this;exact this
 clear y;obtain⟨b,off,rfl,C⟩:=P.resolve_left (by omega);have E:=ae C;have S:((n:Int) == 0)=ZA:=by simpa using O
 clear P C;have r:(n:Int)<=400:=by omega
 have ZP:=ae (G.alloc (by simp) (J #[.func (.func 148) #[] #[],.func (.func 149) #[] #[],.func (.func 150) #[] #[],.func (.func 151) #[] #[]] 221));go_enter func100,ntmps100;go_wp2;have ZQ:(A w (J #[Z (T (Q b off Y)) n cap] 37)).heap.size=N (U w)+1:=by simp
 have m:=ae (Ho (A w (J #[Z (T (Q b off Y)) n cap] 37)) (.func (.func 148) #[] #[]) (.func (.func 149) #[] #[]) (.func (.func 150) #[] #[]) (.func (.func 151) #[] #[]) 221);rw[ZQ] at m;have ZN:=(((dB (N (U w)+1) (A w (J #[Z (T (Q b off Y)) n cap] 37))).alloc (by omega) (J #[.func (.func 148) #[] #[],.func (.func 149) #[] #[],.func (.func 150) #[] #[],.func (.func 151) #[] #[]] 221)).cell (p:=(Q (N (U w)) 0 Y)) (AI _)).trans ZM;clear ZQ ZM G;generalize World.alloc (World.alloc w _) _=W at ZP m ZN ⊢;have t:N (U w)+1<N (U W):=m.lt;go_loopw [21] (λi wr=>∃k:Nat,k<=4/\i=.int I k/\Hid (1<=k->aM (bi f) n=-1)/\Hid (2<=k->aM (λp=>bc f p p) n=-1)/\Hid (3<=k->bA 0 (aC f n)=-1)/\Hid (4<=k->aZ f (aC f n)=-1)/\Hid (Below (N (U W)) W wr)) (λi _=>4 - (intOf i).toNat);case atStart=>exact⟨0,by omega,rfl,λh=>by omega,λh=>by omega,λh=>by omega,λh=>by omega,dB _ _⟩
 case round =>
  obtain⟨k,hk,rfl,g,H,K,H4,l⟩:=hrel;have k2:=(l.cell (p:=(Q (N (U w)) 0 Y)) (by show (N (U w))<_;omega)).trans ZN;have j:=ae (ZP.trans (l.mono ZP.size));by_cases hlt:k<4
  ·rcases(show(True/\k=0)∨(True/\k=1)∨(True/\k=2)∨(True/\k=3) by rcases(show k=0∨k=1∨k=2∨k=3 by omega) with h|h|h|h<;>simp[h]) with ⟨M0,rfl⟩|⟨M1,rfl⟩|⟨M2,rfl⟩|⟨M3,rfl⟩
   all_goals
    first
     |(guard_hyp M0;have ZO:=(l.cell (p:=(Q (N (U w)+1) 0 Y)) t).trans m.c0;have z:=ae (tD b off n cap f _ r (E.aa j ly) L HM (R.aa j R.1));have x:=ae (qk _ _:aM (bi f) n=-1∨0<=aM (bi f) n);obtain⟨X,hX⟩:∃X,X=aM (bi f) n:=⟨_,rfl⟩)
     |(guard_hyp M1;have ZO:=(l.cell (p:=(Q (N (U w)+1) 1 Y)) t).trans m.c1;have z:=ae (tG b off n cap f _ r (E.aa j ly) (EI (g (by omega))));have x:=ae (qk _ _:aM (λp=>bc f p p) n=-1∨0<=aM (λp=>bc f p p) n);obtain⟨X,hX⟩:∃X,X=aM (λp=>bc f p p) n:=⟨_,rfl⟩)
     |(guard_hyp M2;have ZO:=(l.cell (p:=(Q (N (U w)+1) 2 Y)) t).trans m.c2;have z:=ae (tI b off n cap f _ (jO (g (by omega))) (by omega) r (E.aa j ly) (pa (g (by omega))) (by have:=kU (jO (g (by omega))) (n:=n) (by omega);omega));have x:=ae (EF _ _:bA 0 (aC f n)=-1∨0<=bA 0 (aC f n));obtain⟨X,hX⟩:∃X,X=bA 0 (aC f n):=⟨_,rfl⟩)
     |(guard_hyp M3;have ZO:=(l.cell (p:=(Q (N (U w)+1) 3 Y)) t).trans m.c3;have z:=ae (xe b off n cap f _ (jO (g (by omega))) (by omega) r (E.aa j ly) (pa (g (by omega))));have x:=ae (sH _ _:aZ f (aC f n)=-1∨0<=aZ f (aC f n));obtain⟨X,hX⟩:∃X,X=aZ f (aC f n):=⟨_,rfl⟩)
    rw[<-hX] at z x;have D:=ae hX;clear hX;go_wp2_with fail;refine z.mono ?_;rintro e w2 ⟨rfl,ZR⟩;have ZK:=ae (j.trans (ZR.mono j.size));have u:=ae (l.trans (ZR.mono l.size));clear ZR z;by_cases ZS:X=-1
    ·have F:=ae (D.symm.trans ZS)
     have hd:decide (0<=X)=ZA:=by rw[ZS];rfl
     clear ZS;go_wp2;first
      |(guard_hyp M0;exact⟨⟨0+1,by omega,by go_num,λ_=>F,λh=>by omega,λh=>by omega,λh=>by omega,u⟩,by simp[intOf]⟩)
      |(guard_hyp M1;exact⟨⟨1+1,by omega,by go_num,λ_=>g (by omega),λ_=>F,λh=>by omega,λh=>by omega,u⟩,by simp[intOf]⟩)
      |(guard_hyp M2;exact⟨⟨2+1,by omega,by go_num,λ_=>g (by omega),λ_=>H (by omega),λ_=>F,λh=>by omega,u⟩,by simp[intOf]⟩)
      |(guard_hyp M3;exact⟨⟨3+1,by omega,by go_num,λ_=>g (by omega),λ_=>H (by omega),λ_=>K (by omega),λ_=>F,u⟩,by simp[intOf]⟩)
    ·have c:=s.out
     (try rw[gM (by rw[g.out (by omega)];simp)] at c)
     (try rw[gM (by rw[H.out (by omega)];simp)] at c)
     (try rw[gM (by rw[K.out (by omega)];simp)] at c)
     rw[p6 (by rw[<-D.out];exact ZS),<-D.out] at c;simp only[LN] at c;have hge:0<=X:=x.resolve_left ZS;obtain⟨c,o⟩:=c;clear s ZS x;subst c o;go_wp2;go_ret2;exact⟨rfl,ZK⟩
  ·obtain rfl:k=4:=by omega
   have c:c1=0/\c2=0:=by have:=s.out;rw[gM (by rw[g.out (by omega)];simp),gM (by rw[H.out (by omega)];simp),gM (by rw[K.out (by omega)];simp),gM (by rw[H4.out (by omega)];simp)] at this;simp only[LN] at this;omega
   obtain⟨c,o⟩:=c;clear s;subst c o;go_wp2;go_ret2;exact⟨rfl,j⟩
